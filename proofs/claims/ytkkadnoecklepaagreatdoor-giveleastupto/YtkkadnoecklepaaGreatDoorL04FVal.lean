import Derived.Test.YtkkadnoecklepaaGreatDoorL03NatMany
import Derived.Deep.DeepCutAuto
import Derived.Shelf.Strings.Builder1
import Derived.Shelf.Strconv.Itoa1
import Derived.Shelf.Strconv.Itoa2
import Derived.Lib.ItoaMem
import Derived.Lib.AppendIntMem
import Derived.BigCall
import Derived.BigGuard
import Derived.Lib.Builder
import Derived.Lib.AppendStr
import Derived.Lib.UnsafeStr
import Derived.Laws.Externs
namespace Go.Proofs.YtkkadnoecklepaaGreatDoor
open Go.RowKit
open Go.Proofs.Tryz
set_option linter.unusedSimpArgs false
set_option linter.unusedVariables false
set_option maxHeartbeats 8000000
set_option maxRecDepth 1000000
theorem U64.uniq{w:Vz}{a:Vx}{c p:Nat}{l f:Vy}{n n':Nat}(h:U64 w a c l n)(k:U64 w a p f n')(hl:l.length=f.length):n=n':=by
 have e:l=f:=by
  apply List.ext_getElem hl;intro i m o;obtain⟨b,g,q,_,d1⟩:=h.row.cell i m;obtain⟨r,d,j,_,d2⟩:=k.row.cell i o;rw[q] at j;obtain⟨rfl,rfl⟩:b=r/\g=d:=by simp at j;exact j
  rw[d1] at d2;simp only[Option.some.injEq,Value.int.injEq,true_and] at d2;have d3:l.getD i 0=f.getD i 0:=by omega
  rw[List.getD_eq_getElem?_getD,List.getD_eq_getElem?_getD,gE m,gE o] at d3
  simpa using d3
 rw[<-h.num.eq,<-k.num.eq,e]
open Classical in
theorem Qsv:∃f:World->Value->Nat,∀(w:Vz) (a:Vx) (c:Nat) (l:Vy) (n:Nat),U64 w a c l n->f w (.slice a l.length c)=n:=by
 have h:∀(w:Vz) (v:Value),∃n:Nat,∀(a:Vx) (c:Nat) (l:Vy) (m:Nat),v=.slice a l.length c->U64 w a c l m->n=m:=by
  intro w v;by_cases g:∃n a c l,v=.slice a (List.length l) c/\U64 w a c l n
  .
   obtain⟨n,a,c,l,rfl,b⟩:=g;refine⟨n,fun o q r m e d=>?_⟩;simp only[Value.slice.injEq] at e;obtain⟨rfl,i,rfl⟩:=e;exact b.uniq d i
  . exact⟨0,fun a c l m e d=>absurd ⟨m,a,c,l,e,d⟩ g⟩
 have j:∀p:World × Value,∃n:Nat,∀(a:Vx) (c:Nat) (l:Vy) (m:Nat),p.2=.slice a l.length c->U64 p.1 a c l m->n=m:=fun p=>h p.1 p.2
 obtain⟨f,k⟩:=Classical.axiomOfChoice j;exact⟨fun w v=>f (w,v),fun w a c l n b=>k (w,.slice a l.length c) a c l n rfl b⟩
theorem U64.len_mono{w w':Vz}{a b:Vx}{c d:Nat}{l m:Vy}{x y:Nat}(h:U64 w a c l x)(k:U64 w' b d m y)(e:x<=y):l.length<=m.length:=
 h.num.length_le_of_lt (by decide) (Nat.lt_of_le_of_lt e (by have:=Qab (B:=18446744073709551616) (by decide) k.num.small;rw[k.num.eq] at this;exact this))
theorem Qsw{l:Vy}{x:Nat}(h:Num 18446744073709551616 l x)(a:l.length=1):l.getD 0 0=x:=by
 rw[<-h.eq]
 match l,a with
 | [z],_=>simp[val]
structure HoldsC (w:Vz) (p:Addr) (v:Value) (wl:Vz):Prop where
 b:Bl w wl
 c:wl.cell? p=some v
theorem HoldsC.drew{w:Vz}{p:Addr}{v:Value}{a:Vz}(h:HoldsC w p v a):HoldsC w p v a.drew:=⟨h.b.drew,h.c⟩
theorem HoldsC.below{w:Vz}{p:Addr}{v:Value}{a w':Vz}(h:HoldsC w p v a)(d:p.block<w.heap.size)(k:Bl a w'):HoldsC w p v w':=
 ⟨h.b.trans (k.mono h.b.size),(k.cell (Nat.lt_of_lt_of_le d h.b.size)).trans h.c⟩
theorem Qsx(w:Vz)(g:Addr)(v:Value)(m:g.block<w.heap.size)(a:Vx)(c d:Nat)(l:Vy)(x:Nat)(h:U64 w a c l x)(i:0<d)(n:d<18446744073709551616)(f:Vz)(j:HoldsC w g v f):
 Calls prog 183 #[.slice a l.length c,.int .u64 d] f fun e w'=>e=.returned (.int .u64 ((x % d:Nat):Int))/\HoldsC w g v w'/\Below f.heap.size f w':=by
 refine(Qs7 a c d l x f (h.below j.b) i n).mono ?_;rintro e w' ⟨rfl,k⟩;exact⟨rfl,j.below m k,k⟩
theorem Qsy(w:Vz)(b:Addr)(v:Value)(d:b.block<w.heap.size)(x y:Nat)(f:x<18446744073709551616)(g:y<18446744073709551616)(a:Vz)(h:HoldsC w b v a):
 Calls prog 182 #[.int .u64 x,.int .u64 y] a fun e w'=>e=.returned (.int .u64 ((Nat.gcd x y:Nat):Int))/\HoldsC w b v w'/\Below a.heap.size a w':=by
 refine(Qs6 x y a f g).mono ?_;rintro e w' ⟨rfl,c⟩;exact⟨rfl,h.below d c,c⟩
theorem Qsz{w a:Vz}{G:Nat}(h:Bl w a)(c:0<G)(e:G<18446744073709551616):Nat64 w G (.returned (.slice (some ⟨a.heap.size,0,none⟩) 1 1)) (a.alloc (.cells #[.int .u64 G] 190)):=by
 have hB:Blk .u64 190 (a.alloc (.cells (wordCells .u64 [G]) 190)) a.heap.size [G]:=Blk.new _ _ _ _;exact⟨⟨some ⟨a.heap.size,0,none⟩,1,[G],rfl,hB.row 1 (by simp) 1 (by omega),⟨fun d b=>by simp at b;omega,.inr (by simp;omega),by simp[val]⟩,by simp⟩,h.alloc h.size _⟩
def Own2(B:Nat)(w:Vz)(a b:Vx)(c d:Nat)(l m:Vy)(p q:Nat):Prop:=∃g1 g2 C1 C2,a=some ⟨g1,0,none⟩/\b=some ⟨g2,0,none⟩/\ON w g1 c C1 l p/\ON w g2 d C2 m q/\g1≠g2/\B<=g1/\B<=g2
theorem Qkk{w w':Vz}{a:Vx}{b cap' g x:Nat}{l:Vy}(h:U64 w a b l x)(c:Pre w' g l)(d:l.length<=cap'):ON w' g cap' l l x:=⟨c,h.num.small,h.short,List.take_length,h.num,d⟩
theorem Qs0(a1 a2:Vx)(c1 c2:Nat)(l m:Vy)(x y:Nat)(w:Vz)(h1:U64 w a1 c1 l x)(h2:U64 w a2 c2 m y)(hl:l.length<1099511627770)(hm:m.length<1099511627770):
 Calls prog 125 #[.slice a1 l.length c1,.slice a2 m.length c2] w (Nat64 w (Nat.gcd x y)):=by
 have HC:=Hi (Qdb a1 a2 c1 c2 l m x y w h1 h2);obtain⟨G,hG⟩:=nm (Nat.gcd x y);rw[hG];obtain⟨H1,H2,HG⟩:=Ib h1 h2 hG;clear h1 h2 hG;obtain⟨natAt,ar⟩:=Qsv;have t:=Hi ar;clear ar;go_enter func125,ntmps125;go_wp2_with fail;go_fit HC.o;rintro e w1 ⟨rfl,D⟩;have Q:=Hi D;clear D HC;go_upto_if 11 with fail
 go_cut [0,1] (fun xv yv wr=>∃(p q:Nat) (a b:Vx) (c d:Nat) (l m:Vy),xv=.slice a l.length c/\yv=.slice b m.length d/\q<=p/\l.length<1099511627770/\U64 w a c l p/\U64 w b d m q/\Nat.gcd p q=G/\wr=w1)
 case first=>
  by_cases bf:x<y
  .
   have au:=(Qau x y).2 bf;go_wp2_with fail;go_meet
   case rel=>exact⟨y,x,a2,a1,c2,c1,m,l,rfl,rfl,by omega,hm,H2.o,H1.o,(Nat.gcd_comm y x).trans HG.o,rfl⟩
  .
   have au:¬(cmp3 x y<0):=fun h=>by have:=(Qau x y).1 h;omega
   go_wp2_with fail;go_meet
   case rel=>exact⟨x,y,a1,a2,c1,c2,l,m,rfl,rfl,by omega,hl,H1.o,H2.o,HG.o,rfl⟩
 case rest=>
 clear hl hm H1 H2 HG;obtain⟨wx,rfl⟩:∃wx,wx=wc:=⟨wc,rfl⟩;obtain⟨p,q,a,b,c,d,l,m,rfl,rfl,s,E,g,f,V,rfl⟩:=hcut;obtain⟨HX,HY,HG⟩:=Ib g f V;clear g f V;go_upto_if 16 with fail
 go_cut [0,1] (fun xv yv wr=>∃(p q:Nat) (a b:Vx) (c d:Nat) (l m:Vy),xv=.slice a l.length c/\yv=.slice b m.length d/\q<=p/\l.length<1099511627770/\U64 wr a c l p/\U64 wr b d m q/\Nat.gcd p q=G/\(1<m.length->Own2 w.heap.size wr a b c d l m p q)/\Below w.heap.size w wr)
 case first=>
  by_cases bg:1<m.length
  .
   have bh:(1:Int)<(m.length:Int):=by omega
   have bx:=HY.o.len_mono HX.o s;have av:=Hi (Qgl a c l p wx (HX.o.below Q.o) (by omega));go_wp2_with fail;go_fit av.o;rintro e W ⟨⟨Z,d1,rfl,bi,bz,aw⟩,A⟩;obtain⟨ax,ab,i⟩:=Ib (Qgl b d m q W ((HY.o.below Q.o).below A) (by omega)) aw (Q.o.trans (A.mono Q.o.size));have ay:w.heap.size<=Z:=by have:=Q.o.size;omega
   clear aw A av;go_wp2_with fail;go_fit ax.o;rintro e w3 ⟨⟨P,d2,rfl,bj,b0,az⟩,k⟩;obtain⟨R,B⟩:=Ia (Qkk HX.o (ab.o.below k ab.o.lt) bi) (Qkk HY.o az bj);have b1:Z<P:=by have:=ab.o.lt;omega
   have j:=Hi (i.o.trans (k.mono i.o.size));clear az k ax;go_wp2_with fail;go_meet
   case rel=>exact⟨p,q,some ⟨Z,0,none⟩,some ⟨P,0,none⟩,d1,d2,l,m,rfl,rfl,s,(by omega),R.o.u64,B.o.u64,HG.o,(fun _=>⟨Z,P,l,m,rfl,rfl,R.o,B.o,(by omega),ay,(by omega)⟩),j.o⟩
  .
   have bh:¬((1:Int)<(m.length:Int)):=by omega
   go_wp2_with fail;go_meet
   case rel=>exact⟨p,q,a,b,c,d,l,m,rfl,rfl,s,(by omega),HX.o.below Q.o,HY.o.below Q.o,HG.o,(fun h=>absurd h bg),Q.o⟩
 case rest=>
 clear s E HX HY HG Q;obtain⟨wy,rfl⟩:∃wy,wy=wc:=⟨wc,rfl⟩;have a0:=Hi hcut;clear hcut;go_wp2_with fail;go_loopw [0,1] (fun xv yv wr=>∃(p q:Nat) (a b:Vx) (c d:Nat) (l m:Vy),xv=.slice a l.length c/\yv=.slice b m.length d/\q<=p/\l.length<1099511627770/\U64 wr a c l p/\U64 wr b d m q/\Nat.gcd p q=G/\(1<m.length->Own2 w.heap.size wr a b c d l m p q)/\Below w.heap.size w wr) (fun xv yv wr=>natAt wr xv+natAt wr yv)
 case atStart=>exact a0.o
 case round=>
  obtain⟨p,q,a,b,c,d,l,m,rfl,rfl,s,E,g,f,V,a3,D⟩:=hrel;have a4:=Hi a3;clear a3;have b2:=f.len_mono g s;obtain⟨S,v,F,u⟩:=Ic g f V D;by_cases b3:m.length<=1
  .
   have bk:¬(1:Int)<(m.length:Int):=by omega
   by_cases n:q=0
   .
    have bl:((m.length:Int) == 0)=true:=by have:=(f.num.len_zero (by decide)).1 n;simp[this]
    have HQ:=Hi n;clear g f V D n;go_wp2;go_ret;have e1:=F.o;rw[HQ.o,Nat.gcd_zero_right] at e1;exact⟨⟨a,c,l,rfl,by rw[<-e1];exact S.o⟩,u.o⟩
   .
    have bl:((m.length:Int) == 0)=false:=by
     rw[beq_eq_false_iff_ne];have:=(f.num.len_zero (by decide)).2;omega
    have H:m.length=1:=by have:=(f.num.len_zero (by decide)).2;omega
    have HO:=Hi (Qda b d m q wr f);by_cases C:q=1
    .
     rw[show decide (q=1)=true by simpa using C] at HO;have HQ:=Hi C;clear g f V D n C H;go_wp2_with fail;go_fit HO.o;rintro e W ⟨rfl,hw⟩;subst hw;go_wp2;go_ret;have e1:=F.o;rw[HQ.o,Nat.gcd_one_right] at e1;exact⟨⟨b,d,m,rfl,by rw[<-e1,<-HQ.o];exact v.o⟩,u.o⟩
    .
     rw[show decide (q=1)=false by simpa using C] at HO;obtain⟨b',T,rfl,ad,a5⟩:=f.row.cell 0 (by omega);have U:=Qsw f.num H;rw[U,Nat.add_zero] at a5;have ae:q<18446744073709551616:=by rw[<-U];exact f.num.small.getD (by omega) 0
     obtain⟨b4,HR⟩:=Ia U (Qsx wr ⟨b',T,none⟩ (.int .u64 q) ad a c q l p g (by omega) ae);obtain⟨r,hr⟩:=nm (p % q);rw[hr] at HR;have b5:r<q:=by rw[<-hr];exact Nat.mod_lt _ (by omega)
     obtain⟨bm,b6,af⟩:=Ib hr C n;clear g f V D C U hr n H;go_wp2_with fail;go_fit HO.o;rintro e W ⟨rfl,hw⟩;subst hw;go_wp2_with fail;have HI:O (HoldsC W ⟨b',T,none⟩ (.int .u64 q) W):=Hi ⟨Below.refl _ _,a5⟩;have i0:(0:Int)<(m.length:Int):=by have:=(v.o.num.len_zero (by decide)).2;have:=af.o;omega
     have ag:O (Nat.gcd q r=G):=Hi (by rw[<-F.o,<-bm.o];exact Qca p q);have HW:=Hi (Qsy W ⟨b',T,none⟩ (.int .u64 q) ad q r ae (by omega));have b7:0<m.length:=by omega
     rw[ag.o] at HW;go_region_held3 (fun w'=>w'.cell? ⟨b',T,none⟩=some (.int .u64 q)) ((first|(simp [*];done)|exact ce ((Below.refl _ w4).alloc lZ _) z4 k0)) (first
      |(
       go_at_call 183
       first
        |go_fit (HR.o _ HI.o)
        |go_fit (HR.o _ HI.o.drew)
       rintro e w3 ⟨rfl,hi,D⟩;have k0:=hi.c;have a6:=Hi hi
       clear hi D)
      |(
       go_at_call 182
       first
        |go_fit (HW.o _ a6.o)
        |go_fit (HW.o _ a6.o.drew)
       rintro e w4 ⟨rfl,hi,D⟩;have k0:=hi.c;have z4:=Nat.lt_of_lt_of_le ad hi.b.size;have z5:=Nat.ne_of_lt z4;have bn:=Hi hi
       clear hi D))
     all_goals
      go_wp2;go_ret;have bo:0<G:=by rw[<-ag.o];exact Nat.gcd_pos_of_pos_left _ (by have:=af.o;omega)
      have bp:G<18446744073709551616:=by rw[<-ag.o];exact Nat.lt_of_le_of_lt (Nat.gcd_le_left _ (by have:=af.o;omega)) ae
      exact Qsz (u.o.trans (bn.o.b.mono u.o.size)) bo bp
  .
   have bk:(1:Int)<(m.length:Int):=by omega
   have n:0<q:=by
    rcases Nat.eq_zero_or_pos q with h0|h0
    . have:=(f.num.len_zero (by decide)).1 h0;omega
    . exact h0
   obtain⟨Z,P,C1,C2,rfl,rfl,a7,a8,a9,bq,ba⟩:=a4.o (by omega);obtain⟨R,B,HM⟩:=Ib a7 a8 (Qs8 (some ⟨Z,0,none⟩) (some ⟨P,0,none⟩) c d (l.length - 2) l m p q wr g f s (by omega));clear g f V D a7 a8 a4;go_wp2_with fail;go_fit HM.o;rintro e W ⟨⟨bb,xx,xy,yx,yy,rfl,hS⟩,A⟩;obtain⟨HS,i,HN⟩:=Ib hS A (Qs9 bb xx xy yx yy);clear hS A HM;unfold StepsVal;unfold StepsVal at HN;by_cases z:xy=0
   .
    rw[show decide (xy=0)=true by simpa using z] at HN;clear z;go_wp2_with fail;go_fit (HN.o _);rintro e w3 ⟨rfl,k⟩;have j:=Hi ((i.o.alloc i.o.size _).trans (k.mono (i.o.alloc i.o.size _).size));clear k HN;have HD:=Hi (Qkj (some ⟨Z,0,none⟩) (some ⟨P,0,none⟩) c d (m.length - 2) l m p q w3 (S.o.below j.o) (v.o.below j.o) s (by omega) E);go_wp2_with fail;go_fit HD.o;rintro e w4 ⟨⟨aq,cq,lq,gr,cr,Cr,lr,rfl,I,ah,b8⟩,J⟩;have K:=Hi (j.o.trans (J.mono j.o.size));have L:=ah.u64;have M:=Hi L;have bc:=Hi (B.o.below K.o);have br:=Hi ah;have bv:P<gr:=by have:=B.o.pre.lt;have:=j.o.size;omega
    clear ah;have bw:=Nat.mod_lt p n;have aa:=Hi (v.o.below K.o);have m1:=t.o _ _ _ _ _ S.o;have m2:=t.o _ _ _ _ _ v.o;have m3:=t.o _ _ _ _ _ aa.o;have m4:=t.o _ _ _ _ _ M.o;obtain⟨ai,aj,ak,al⟩:=Ic m1 m2 m3 m4;clear I L J HD m1 m2 m3 m4;go_wp2;refine⟨⟨q,p % q,some ⟨P,0,none⟩,some ⟨gr,0,none⟩,d,cr,m,lr,rfl,rfl,by omega,by omega,aa.o,M.o,(Qca p q).trans F.o,fun _=>⟨P,gr,C2,Cr,rfl,rfl,bc.o,br.o,by omega,ba,by omega⟩,u.o.trans (K.o.mono u.o.size)⟩,?_⟩;rw[ai.o,aj.o,ak.o,al.o];omega
   .
    rw[show decide (xy=0)=false by simpa using z] at HN;obtain⟨X,Y,hL⟩:=HS.o.go (by omega);have HL:=Hi hL;have am:=hL.less n;have b9:=hL.le;have bs:=Hi hL.gcd;clear hL z;go_wp2_with fail;go_fit (HN.o _);rintro e w3 ⟨rfl,k⟩;obtain⟨j,N⟩:=Ia ((i.o.alloc i.o.size _).trans (k.mono (i.o.alloc i.o.size _).size)) ((SB.new W _ _).below k (by rw[World.size_alloc];omega));clear k HN;have k0:=N.o.cell 0;have k1:=N.o.cell 1;have k2:=N.o.cell 2;have k3:=N.o.cell 3;have k4:=N.o.cell 4;simp at k0 k1 k2 k3 k4;have HD:=Hi (Qta bb xx xy yx yy Z P c d C1 C2 l m p q X Y w3 (R.o.below j.o) (B.o.below j.o) a9 s HS.o HL.o n w.heap.size bq ba);go_wp2_with fail;go_fit HD.o;rintro e w4 ⟨⟨ga,gb,ca,cb,Ca,Cb,la,lb,rfl,an,ao,bd⟩,J⟩;have K:=Hi ((u.o.trans (j.o.mono u.o.size)).trans J)
    have I:=an.u64;have L:=ao.u64;obtain⟨bt,bu⟩:=Ia an ao;have ap:ga≠gb/\w.heap.size<=ga/\w.heap.size<=gb:=by omega
    clear an ao bd;obtain⟨be,M,ai,aj⟩:=Ic I L (t.o _ _ _ _ _ S.o) (t.o _ _ _ _ _ v.o);obtain⟨ak,al⟩:=Ia (t.o _ _ _ _ _ be.o) (t.o _ _ _ _ _ M.o);have cc:=I.len_mono v.o am.1;clear I L J HD;go_wp2;refine⟨⟨X,Y,some ⟨ga,0,none⟩,some ⟨gb,0,none⟩,ca,cb,la,lb,rfl,rfl,by omega,by omega,be.o,M.o,bs.o.trans F.o,fun _=>⟨ga,gb,Ca,Cb,rfl,rfl,bt.o,bu.o,ap.1,ap.2.1,ap.2.2⟩,K.o⟩,?_⟩;rw[ai.o,aj.o,ak.o,al.o];omega
theorem Qih(neg:Bool):sgn neg 0=0:=by cases neg<;>simp[sgn]
theorem Qo4{neg:Bool}{t:Nat}(h:0<t):decide (sgn neg t<0)=neg:=by cases neg<;>simp[sgn]<;>omega
theorem Qby(x:Int):sgn (decide (x<0)) x.natAbs=x:=by
 unfold sgn;by_cases h:x<0
 . simp[h];omega
 . simp[h];omega
theorem Qcg(p q:Bool)(s t:Nat):sgn (p != q) (s*t)=sgn p s*sgn q t:=by cases p<;>cases q<;>simp[sgn]<;>grind
theorem Qo5(p:Bool)(s:Nat):sgn (!p) s= - sgn p s:=by cases p<;>simp[sgn]
theorem Qii{neg:Bool}{t d:Nat}(b:0<d)(a:Nat.Coprime t d):(mkRat (sgn neg t) d).num=sgn neg t/\(mkRat (sgn neg t) d).den=d:=by
 have e:=Rat.mk_eq_mkRat (sgn neg t) d (by omega) (by rw[Qeb];exact a);rw[<-e];exact⟨rfl,rfl⟩
theorem Qo6(x y:Rat){g h:Nat}(b:Nat.gcd x.num.natAbs y.den=g)(c:Nat.gcd y.num.natAbs x.den=h):
 mkRat (sgn (decide (x.num<0) != decide (y.num<0)) (x.num.natAbs / g*(y.num.natAbs / h))) (x.den / h*(y.den / g))=x*y/\Nat.Coprime (x.num.natAbs / g*(y.num.natAbs / h)) (x.den / h*(y.den / g)):=by
 have d:0<g:=by rw[<-b];exact Nat.gcd_pos_of_pos_right _ y.den_pos
 have e:0<h:=by rw[<-c];exact Nat.gcd_pos_of_pos_right _ x.den_pos
 have d1:=b ▸ Nat.gcd_dvd_left _ _;have d2:=b ▸ Nat.gcd_dvd_right _ _;have d3:=c ▸ Nat.gcd_dvd_left _ _;have d4:=c ▸ Nat.gcd_dvd_right _ _;have f:=Nat.div_mul_cancel d1;have i:=Nat.div_mul_cancel d2;have j:=Nat.div_mul_cancel d3;have k:=Nat.div_mul_cancel d4;constructor
 .
  rw[<-Qgw,<-Rat.mkRat_mul_right (a:=g*h) (by have:=Nat.mul_pos d e;omega)]
  congr 1
  .
   have k1:(sgn (decide (x.num<0)) (x.num.natAbs / g))*(g:Int)=x.num:=by
    have:=Qcg (decide (x.num<0)) false (x.num.natAbs / g) g;rw[show sgn false g=(g:Int) from rfl,f,Bool.bne_false,Qby] at this;exact this.symm
   have k2:(sgn (decide (y.num<0)) (y.num.natAbs / h))*(h:Int)=y.num:=by
    have:=Qcg (decide (y.num<0)) false (y.num.natAbs / h) h;rw[show sgn false h=(h:Int) from rfl,j,Bool.bne_false,Qby] at this;exact this.symm
   rw[Qcg,<-k1,<-k2,Int.natCast_mul];rw[k1,k2]
   conv=>rhs;rw[<-k1,<-k2]
   grind
  .
   rw[Int.natAbs_mul,Int.natAbs_natCast,Int.natAbs_natCast]
   conv=>rhs;rw[<-k,<-i]
   grind
 .
  have c1:=Nat.Coprime.coprime_dvd_left (Nat.div_dvd_of_dvd d1) (Nat.Coprime.coprime_dvd_right (Nat.div_dvd_of_dvd d4) x.reduced);have c2:Nat.Coprime (x.num.natAbs / g) (y.den / g):=by have:=Nat.coprime_div_gcd_div_gcd (m:=x.num.natAbs) (n:=y.den) (by omega);rw[b] at this;exact this
  have c3:Nat.Coprime (y.num.natAbs / h) (x.den / h):=by have:=Nat.coprime_div_gcd_div_gcd (m:=y.num.natAbs) (n:=x.den) (by omega);rw[c] at this;exact this
  have c4:=Nat.Coprime.coprime_dvd_left (Nat.div_dvd_of_dvd d3) (Nat.Coprime.coprime_dvd_right (Nat.div_dvd_of_dvd d2) y.reduced);exact Nat.Coprime.mul_left (Nat.Coprime.mul_right c1 c2) (Nat.Coprime.mul_right c3 c4)
theorem Qo7(x y:Rat){g h t:Nat}{neg:Bool}(c:Nat.gcd x.den y.den=g)(e:sgn neg t=x.num*((y.den / g:Nat):Int)+y.num*((x.den / g:Nat):Int))(d:Nat.gcd t g=h):
 mkRat (sgn neg (t / h)) (x.den / g*(y.den / h))=x+y/\Nat.Coprime (t / h) (x.den / g*(y.den / h)):=by
 have f:0<g:=by rw[<-c];exact Nat.gcd_pos_of_pos_right _ y.den_pos
 have i:0<h:=by rw[<-d];exact Nat.gcd_pos_of_pos_right _ f
 have d1:=c ▸ Nat.gcd_dvd_left _ _;have d2:=c ▸ Nat.gcd_dvd_right _ _;have d3:=d ▸ Nat.gcd_dvd_left _ _;have d4:=d ▸ Nat.gcd_dvd_right _ _;have j:=Nat.div_mul_cancel d1;have l:=Nat.div_mul_cancel d2;have o:=Nat.div_mul_cancel d3;have p:=Nat.div_mul_cancel (Nat.dvd_trans d4 d2);have q:t=(x.num*((y.den / g:Nat):Int)+y.num*((x.den / g:Nat):Int)).natAbs:=by rw[<-e,Qeb]
 constructor
 .
  rw[<-Qgx,<-Rat.mkRat_mul_right (a:=h*g) (by have:=Nat.mul_pos i f;omega)]
  congr 1
  .
   have k1:sgn neg (t / h)*(h:Int)=sgn neg t:=by
    have:=Qcg neg false (t / h) h;rw[show sgn false h=(h:Int) from rfl,o,Bool.bne_false] at this;exact this.symm
   rw[Int.natCast_mul,<-Int.mul_assoc,k1,e]
   conv=>rhs;rw[<-j,<-l,Int.natCast_mul,Int.natCast_mul]
   grind
  .
   rw[Int.natAbs_mul,Int.natAbs_natCast,Int.natAbs_natCast]
   conv=>rhs;rw[<-j,<-p]
   grind
 .
  have b:=Rat.add.aux x y c.symm rfl rfl;simp only[] at b;rw[<-q,d] at b;have k:=Nat.coprime_div_gcd_div_gcd (m:=t) (n:=x.den / g*y.den) (by rw[<-b];exact i);rw[<-b,Nat.mul_div_assoc _ (Nat.dvd_trans d4 d2)] at k;exact k
theorem Qij{y:Rat}(a:y≠0):mkRat (sgn (decide (y.num<0)) y.den) y.num.natAbs=y⁻¹/\Nat.Coprime y.den y.num.natAbs/\0<y.num.natAbs:=by
 have b:y.num≠0:=fun h=>a (Rat.num_eq_zero.1 h)
 refine⟨?_,Nat.Coprime.symm y.reduced,by omega⟩;rw[Rat.inv_def];by_cases h:y.num<0
 . conv=>rhs;rw[show y.num= -((y.num.natAbs:Nat):Int) by omega,Rat.divInt_neg',Rat.divInt_ofNat]
   simp[sgn,h]
 .
  conv=>rhs;rw[show y.num=((y.num.natAbs:Nat):Int) by omega]
  rw[Rat.divInt_ofNat];simp[sgn,h]
structure Ent where
 a:Option Addr
 n:Nat
 c:Nat
 x:Nat
 k:Nat
def NumV(w:Vz)(a:Vx)(n c x:Nat):Prop:=∃l,List.length l=n/\U64 w a c l x
theorem NumV.below{w w':Vz}{a:Vx}{n c x:Nat}(h:NumV w a n c x)(b:Bl w w'):NumV w' a n c x:=by
 obtain⟨l,hl,h⟩:=h;exact⟨l,hl,h.below b⟩
theorem NumV.zero_iff{w:Vz}{a:Vx}{n c x:Nat}(h:NumV w a n c x):x=0↔n=0:=by
 obtain⟨l,rfl,h⟩:=h;exact h.num.len_zero (by decide)
theorem U64.len_bits{w:Vz}{a:Vx}{c:Nat}{l:Vy}{n k:Nat}(h:U64 w a c l n)(b:n<2 ^ k):l.length<=k:=by
 apply h.num.length_le_of_lt (by decide);refine Nat.lt_of_lt_of_le b ?_;exact Nat.pow_le_pow_left (by decide) k
theorem NumV.some{w:Vz}{a:Vx}{n c x:Nat}(h:NumV w a n c x)(f:0<x):∃b o,a=some ⟨b,o,none⟩:=by
 have g:n≠0:=fun d=>by have:=h.zero_iff.2 d;omega
 obtain⟨l,hl,h⟩:=h;obtain⟨b,o,e,_⟩:=h.row.cell 0 (by omega);exact⟨b,o,e⟩
structure NBag (w0 w:Vz) (L:List Ent):Prop where
 base:Bl w0 w
 ts:∀t,t∈ L->NumV w t.a t.n t.c t.x/\t.x<2 ^ t.k
theorem NBag.below{w0 w w':Vz}{L:List Ent}(h:NBag w0 w L)(a:Bl w w'):NBag w0 w' L:=
 ⟨h.base.trans (a.mono h.base.size),fun t b=>⟨(h.ts t b).1.below a,(h.ts t b).2⟩⟩
theorem NBag.drew{w0 w:Vz}{L:List Ent}(h:NBag w0 w L):NBag w0 w.drew L:=h.below bR.drew
theorem NBag.alloc{w0 w:Vz}{L:List Ent}(h:NBag w0 w L)(o:Obj):NBag w0 (w.alloc o) L:=h.below (bR.alloc lZ _)
theorem NBag.put{w0 w:Vz}{L:List Ent}{a:Vx}{n c x k:Nat}(h:NBag w0 w L)(d:NumV w a n c x)(hk:x<2 ^ k):NBag w0 w (⟨a,n,c,x,k⟩ :: L):=
 ⟨h.base,fun t b=>by
   rcases List.mem_cons.1 b with rfl|b
   . exact⟨d,hk⟩
   . exact h.ts t b⟩
theorem NBag.get{w0 w:Vz}{L:List Ent}{a:Vx}{n c x k:Nat}(h:NBag w0 w L)(b:⟨a,n,c,x,k⟩∈ L):NumV w a n c x/\x<2 ^ k:=h.ts _ b
def NNew(w0:Vz)(L:List Ent)(x k:Nat)(e:Ending)(w':Vz):Prop:=∃a n c,e=.returned (.slice a n c)/\NBag w0 w' (⟨a,n,c,x,k⟩ :: L)
theorem NBag.new{w0 w w':Vz}{L:List Ent}{x k:Nat}{e:Ending}(h:NBag w0 w L)(d:(∃a b r,e=.returned (.slice a (List.length r) b)/\U64 w' a b r x)/\Below w.heap.size w w')(hk:x<2 ^ k):NNew w0 L x k e w':=by
 obtain⟨⟨a,c,r,rfl,f⟩,g⟩:=d;exact⟨a,r.length,c,rfl,(h.below g).put ⟨r,rfl,f⟩ hk⟩
theorem NBag.gcd{w0 w:Vz}{L:List Ent}{a b:Vx}{n1 g c1 c2 x y j k:Nat}(h:NBag w0 w L)(o:⟨a,n1,c1,x,j⟩∈ L)(p:⟨b,g,c2,y,k⟩∈ L)(r:j+k<274877906000):
 Calls prog 125 #[.slice a n1 c1,.slice b g c2] w (NNew w0 L (Nat.gcd x y) (j+k)):=by
 obtain⟨⟨l,rfl,i⟩,c⟩:=h.get o;obtain⟨⟨m,rfl,n⟩,d⟩:=h.get p;refine(Qs0 a b c1 c2 l m x y w i n (by have:=i.len_bits c;omega) (by have:=n.len_bits d;omega)).mono fun e w' q=>h.new q ?_
 have s:2 ^ j<=2 ^ (j+k):=Nat.pow_le_pow_right (by decide) (by omega);have t:2 ^ k<=2 ^ (j+k):=Nat.pow_le_pow_right (by decide) (by omega);rcases Nat.eq_zero_or_pos x with f|f
 . subst f;rw[Nat.gcd_zero_left];omega
 . have:=Nat.gcd_le_left y f;omega
theorem NBag.quot{w0 w:Vz}{L:List Ent}{b c:Vx}{n1 d c1 c2 x y j k:Nat}(h:NBag w0 w L)(g:⟨b,n1,c1,x,j⟩∈ L)(i:⟨c,d,c2,y,k⟩∈ L)(r:j<274877906000)(n:0<y):
 Calls prog 126 #[.slice b n1 c1,.slice c d c2] w (NNew w0 L (x / y) j):=by
 obtain⟨⟨l,rfl,f⟩,a⟩:=h.get g;obtain⟨⟨m,rfl,o⟩,p⟩:=h.get i;refine(Qs5 b c c1 c2 l m x y w f o n (by have:=f.len_bits a;omega)).mono fun e w' q=>h.new q ?_
 exact Nat.lt_of_le_of_lt (Nat.div_le_self _ _) a
theorem NBag.mul{w0 w:Vz}{L:List Ent}{c d:Vx}{n1 f c1 c2 x y j k:Nat}(h:NBag w0 w L)(n:⟨c,n1,c1,x,j⟩∈ L)(o:⟨d,f,c2,y,k⟩∈ L)(q:j+k<274877906000):
 Calls prog 128 #[.slice c n1 c1,.slice d f c2] w (NNew w0 L (x*y) (j+k)):=by
 obtain⟨⟨l,rfl,g⟩,a⟩:=h.get n;obtain⟨⟨m,rfl,i⟩,b⟩:=h.get o;exact(Qkr c d c1 c2 l m x y w g i (by have:=g.len_bits a;have:=i.len_bits b;omega)).mono fun e w' p=>h.new p (Qcs a b)
theorem NBag.add{w0 w:Vz}{L:List Ent}{c d:Vx}{n1 f c1 c2 x y j k:Nat}(h:NBag w0 w L)(n:⟨c,n1,c1,x,j⟩∈ L)(o:⟨d,f,c2,y,k⟩∈ L)(q:j+k<274877906000):
 Calls prog 184 #[.slice c n1 c1,.slice d f c2] w (NNew w0 L (x+y) (j+k+1)):=by
 obtain⟨⟨l,rfl,g⟩,a⟩:=h.get n;obtain⟨⟨m,rfl,i⟩,b⟩:=h.get o;refine(Qsk c d c1 c2 l m x y w g i (by have:=g.len_bits a;omega) (by have:=i.len_bits b;omega)).mono fun e w' p=>h.new p ?_
 have r:2 ^ j<=2 ^ (j+k):=Nat.pow_le_pow_right (by decide) (by omega);have s:2 ^ k<=2 ^ (j+k):=Nat.pow_le_pow_right (by decide) (by omega);have t:(2:Nat) ^ (j+k+1)=2 ^ (j+k)*2:=Nat.pow_succ _ _;have u:=a;have v:=b;omega
theorem NBag.sub{w0 w:Vz}{L:List Ent}{a b:Vx}{n1 f c1 c2 x y j k:Nat}(h:NBag w0 w L)(g:⟨a,n1,c1,x,j⟩∈ L)(i:⟨b,f,c2,y,k⟩∈ L)(c:y<=x):
 Calls prog 185 #[.slice a n1 c1,.slice b f c2] w (NNew w0 L (x - y) j):=by
 obtain⟨⟨l,rfl,n⟩,d⟩:=h.get g;obtain⟨⟨m,rfl,o⟩,p⟩:=h.get i;exact(Qsl a b c1 c2 l m x y w n o c).mono fun e w' q=>h.new q (Nat.lt_of_le_of_lt (Nat.sub_le _ _) d)
theorem NBag.compare{w0 w:Vz}{L:List Ent}{a b:Vx}{n1 c c1 c2 x y j k:Nat}(h:NBag w0 w L)(d:⟨a,n1,c1,x,j⟩∈ L)(f:⟨b,c,c2,y,k⟩∈ L):
 Calls prog 176 #[.slice a n1 c1,.slice b c c2] w (fun e w'=>e=.returned (.int .i64 (cmp3 x y))/\NBag w0 w' L):=by
 obtain⟨⟨l,rfl,g⟩,i⟩:=h.get d;obtain⟨⟨m,rfl,n⟩,o⟩:=h.get f;refine(Qdb a b c1 c2 l m x y w g n).mono ?_;rintro e w' ⟨rfl,p⟩;exact⟨rfl,h.below p⟩
def LowIn(w:Vz)(b:Vx)(m d k:Nat):Prop:=(b=none/\m=0/\d=0/\k=1)∨(0<k/\NumV w b m d k)
def Low(w:Vz)(b:Vx)(m d k:Nat):Prop:=(b=none/\m=0/\d=0/\k=1)∨(1<k/\NumV w b m d k)
theorem Low.lowIn{w:Vz}{b:Vx}{m d k:Nat}(h:Low w b m d k):LowIn w b m d k:=by
 rcases h with h|⟨h,a⟩
 . exact .inl h
 . exact .inr ⟨by omega,a⟩
theorem Low.below{w w':Vz}{b:Vx}{m d k:Nat}(h:Low w b m d k)(a:Bl w w'):Low w' b m d k:=by
 rcases h with h|⟨h,c⟩
 . exact .inl h
 . exact .inr ⟨h,c.below a⟩
structure FracAt (w:Vz) (neg:Bool) (a:Vx) (n c:Nat) (b:Vx) (m d:Nat) (q:Rat):Prop where
 neg:neg=decide (q.num<0)
 top:NumV w a n c q.num.natAbs
 low:Low w b m d q.den
theorem FracAt.below{w w':Vz}{neg:Bool}{a b:Vx}{n c m d:Nat}{q:Rat}(h:FracAt w neg a n c b m d q)(e:Bl w w'):FracAt w' neg a n c b m d q:=⟨h.neg,h.top.below e,h.low.below e⟩
def FracV(w:Vz)(v:Value)(q:Rat):Prop:=∃neg a n c b m d,v=.agg #[.bool neg,.slice a n c,.slice b m d]/\FracAt w neg a n c b m d q
theorem FracV.below{w w':Vz}{v:Value}{q:Rat}(h:FracV w v q)(f:Bl w w'):FracV w' v q:=by
 obtain⟨neg,a,n,c,b,m,d,e,h⟩:=h;exact⟨neg,a,n,c,b,m,d,e,h.below f⟩
def FNew(w:Vz)(q:Rat)(e:Ending)(w':Vz):Prop:=(∃v,e=.returned v/\FracV w' v q)/\Below w.heap.size w w'
theorem NumV.nil(w:Vz):NumV w none 0 0 0:=⟨[],rfl,U64.nil w⟩
theorem FracV.zero(w:Vz):FracV w (.agg #[.bool false,.slice none 0 0,.slice none 0 0]) 0:=
 ⟨false,none,0,0,none,0,0,rfl,by decide,NumV.nil w,.inl ⟨rfl,rfl,rfl,rfl⟩⟩
theorem FracV.mk{w:Vz}{neg:Bool}{a b:Vx}{n c m d t k:Nat}(f:NumV w a n c t)(hl:Low w b m d k)(g:Nat.Coprime t k)(i:0<t):FracV w (.agg #[.bool neg,.slice a n c,.slice b m d]) (mkRat (sgn neg t) k):=by
 have hk:0<k:=by rcases hl with ⟨_,_,_,rfl⟩|⟨h,_⟩<;>omega
 obtain⟨e,j⟩:=Qii (neg:=neg) hk g;exact⟨neg,a,n,c,b,m,d,rfl,by rw[e,Qo4 i],by rw[e,Qeb];exact f,by rw[j];exact hl⟩
theorem Qid{w:Vz}{a:Vx}{n c x:Nat}(h:NumV w a n c x):Calls prog 172 #[.slice a n c] w fun e w'=>e=.returned (.bool (decide (x=1)))/\w'=w:=by
 obtain⟨l,rfl,h⟩:=h;exact Qda a c l x w h
def NoU64(C:Vw):Prop:=∀(i:Nat) (n:Int),C[i]?≠some (Value.int .u64 n)
theorem Row.only64{w w':Vz}{a:Vx}{d:Nat}{l:Vy}{c:Nat}{t:Vr}{C:Vw}(h:Row .u64 w a d l)(f:Only c w w')(n:SB w c t C)(o:NoU64 C):Row .u64 w' a d l:=by
 refine⟨h.fit,?_,fun i p=>?_⟩
 .
  rcases h.shape with g|⟨e,b,rfl,m⟩
  . exact .inl g
  . exact .inr ⟨e,b,rfl,by have:=f.size;omega⟩
 .
  obtain⟨e,b,g,m,j⟩:=h.cell i p;have k:e≠c:=by
   rintro rfl;rw[n.cell] at j;exact o _ _ j
  exact⟨e,b,g,by have:=f.size;omega,(World.cell?_of_block (w:=w) (f.block e m k)).trans j⟩
theorem NumV.only{w w':Vz}{a:Vx}{n c x g:Nat}{t:Vr}{C:Vw}(h:NumV w a n c x)(b:Only g w w')(d:SB w g t C)(e:NoU64 C):NumV w' a n c x:=by
 obtain⟨l,hl,h⟩:=h;exact⟨l,hl,h.row.only64 b d e,h.num,h.short⟩
theorem FracAt.only{w w':Vz}{neg:Bool}{a b:Vx}{n c m d g:Nat}{q:Rat}{t:Vr}{C:Vw}(h:FracAt w neg a n c b m d q)(f:Only g w w')(i:SB w g t C)(j:NoU64 C):FracAt w' neg a n c b m d q:=by
 refine⟨h.neg,h.top.only f i j,?_⟩;rcases h.low with e|⟨e,k⟩
 . exact .inl e
 . exact .inr ⟨e,k.only f i j⟩
theorem FracV.only{w w':Vz}{v:Value}{g:Nat}{q:Rat}{t:Vr}{C:Vw}(h:FracV w v q)(f:Only g w w')(i:SB w g t C)(j:NoU64 C):FracV w' v q:=by
 obtain⟨neg,a,n,c,b,m,d,e,h⟩:=h;exact⟨neg,a,n,c,b,m,d,e,h.only f i j⟩
def zeroFrac:Array Value:=#[.bool false,.slice none 0 0,.slice none 0 0]
theorem Qbl:NoU64 zeroFrac:=by
 intro i n h
 match i with
 |0=>simp[zeroFrac] at h
 |1=>simp[zeroFrac] at h
 |2=>simp[zeroFrac] at h
 |i+3=>simp[zeroFrac] at h
theorem SB.new2(w:Vz)(t1 t2:Vr)(C D:Vw):SB ((w.alloc (.cells C t1)).alloc (.cells D t2)) (w.heap.size+1) t2 D:=by
 have:=SB.new (w.alloc (.cells C t1)) t2 D;rw[World.size_alloc] at this;exact this
theorem SB.new3(w:Vz)(t1 t2 t3:Vr)(C D E:Vw):SB (((w.alloc (.cells C t1)).alloc (.cells D t2)).alloc (.cells E t3)) (w.heap.size+1+1) t3 E:=by
 have:=SB.new ((w.alloc (.cells C t1)).alloc (.cells D t2)) t3 E;rw[World.size_alloc,World.size_alloc] at this;exact this
theorem Below.new2(w:Vz)(a b:Obj):Bl w ((w.alloc a).alloc b):=bR.alloc lZ _ |>.alloc (by rw[World.size_alloc];omega) _
theorem Below.new3(w:Vz)(a b c:Obj):Bl w (((w.alloc a).alloc b).alloc c):=(Below.new2 w a b).alloc (by rw[World.size_alloc,World.size_alloc];omega) _
theorem Tryz.fracInfo:(prog.info? 107).map (·.size)=some 3:=by kernel_rfl
theorem Qd3(neg:Bool)(a b:Vx)(n c m d t k:Nat)(w:Vz)(q:NumV w a n c t)(hl:LowIn w b m d k)(u:Nat.Coprime t k):
 Calls prog 121 #[.bool neg,.slice a n c,.slice b m d] w (FNew w (mkRat (sgn neg t) k)):=by
 obtain⟨r,s⟩:=Ia q u;have j:=q.zero_iff;have z:=Hi ((Below.refl w.heap.size w).alloc lZ (.cells #[.bool false,.slice none 0 0,.slice none 0 0] 107));clear q u;by_cases l:t=0
 .
  have x:=j.1 l;subst l x;rw[Qih,Rat.zero_mkRat];clear hl j;go_enter func121,ntmps121;go_wp2;refine bodyPost_ret (v:=.agg #[.bool false,.slice none 0 0,.slice none 0 0]) (results_cell_row rfl _ _ (w.heap.size) 107 #[.bool false,.slice none 0 0,.slice none 0 0] (0,0) _ rfl (SB.new w _ _) underlying107 rfl Tryz.fracInfo) rfl ?_;exact⟨⟨_,rfl,FracV.zero _⟩,z.o⟩
 .
  have x:((n:Int) == 0)=false:=by rw[beq_eq_false_iff_ne];omega
  have i:0<t:=by omega
  rcases hl with ⟨rfl,rfl,rfl,rfl⟩|⟨hk,hl⟩
  .
   have f:=Hi (Qid (NumV.nil (w.alloc (.cells #[.bool false,.slice none 0 0,.slice none 0 0] 107))));rw[show decide (0=1)=false by decide] at f;clear j l;go_enter func121,ntmps121;go_wp2_with fail;go_fit f.o;rintro e y ⟨rfl,p⟩;subst p;clear f;go_wp2;refine bodyPost_ret (v:=.agg #[.bool neg,.slice a n c,.slice none 0 0]) (results_cell_row rfl _ _ (w.heap.size) 107 #[.bool neg,.slice a n c,.slice none 0 0] (0,0) _ rfl (SB.new w _ _) underlying107 rfl Tryz.fracInfo) rfl ?_;have g:=(Below.refl w.heap.size w).alloc lZ (.cells #[.bool neg,.slice a n c,.slice none 0 0] 107);exact⟨⟨_,rfl,FracV.mk (r.o.below g) (.inl ⟨rfl,rfl,rfl,rfl⟩) s.o i⟩,g⟩
  .
   obtain⟨f,A⟩:=Ia (Qid (hl.below ((Below.refl w.heap.size w).alloc lZ (.cells #[.bool false,.slice none 0 0,.slice none 0 0] 107)))) hl;clear hl;by_cases h:k=1
   .
    rw[show decide (k=1)=true by simpa using h] at f;clear j l;go_enter func121,ntmps121;go_wp2_with fail;go_fit f.o;rintro e y ⟨rfl,p⟩;subst p;clear f;go_wp2;refine bodyPost_ret (v:=.agg #[.bool neg,.slice a n c,.slice none 0 0]) (results_cell_row rfl _ _ (w.heap.size) 107 #[.bool neg,.slice a n c,.slice none 0 0] (0,0) _ rfl (SB.new w _ _) underlying107 rfl Tryz.fracInfo) rfl ?_;have g:=(Below.refl w.heap.size w).alloc lZ (.cells #[.bool neg,.slice a n c,.slice none 0 0] 107);exact⟨⟨_,rfl,FracV.mk (r.o.below g) (.inl ⟨rfl,rfl,rfl,h⟩) s.o i⟩,g⟩
   .
    rw[show decide (k=1)=false by simpa using h] at f;have B:=Hi (show 1<k by omega);clear j l h;go_enter func121,ntmps121;go_wp2_with fail;go_fit f.o;rintro e y ⟨rfl,p⟩;subst p;clear f;go_wp2;refine bodyPost_ret (v:=.agg #[.bool neg,.slice a n c,.slice b m d]) (results_cell_row rfl _ _ (w.heap.size) 107 #[.bool neg,.slice a n c,.slice b m d] (0,0) _ rfl (SB.new w _ _) underlying107 rfl Tryz.fracInfo) rfl ?_;have g:=(Below.refl w.heap.size w).alloc lZ (.cells #[.bool neg,.slice a n c,.slice b m d] 107);exact⟨⟨_,rfl,FracV.mk (r.o.below g) (.inr ⟨B.o,A.o.below g⟩) s.o i⟩,g⟩
theorem Qox(neg:Bool)(a b:Vx)(n c m d k g:Nat)(w0 w:Vz)(L:List Ent)(hB:NBag w0 w L)(hl:Low w b m d k)(hk:k<2 ^ g):
 Calls prog 124 #[.agg #[.bool neg,.slice a n c,.slice b m d]] w (NNew w0 L k g):=by
 have r:∀(w:Vz) (a:Vx) (n c n' f:Nat),(binOp .eql 105 (.slice a n c) (.slice none n' f)).run prog w=.ok (.bool a.isNone) w:=fun w a n c n' f=>Lib.run_eql_slice_nil w _ _ a n c n' f underlying105
 obtain⟨i,j,p⟩:=Ib hB hk hl;clear hB hk;rcases hl with ⟨rfl,rfl,rfl,rfl⟩|⟨l,e⟩
 .
  go_enter func124,ntmps124;go_wp2;go_ret;have hB:Blk .u64 190 ((w.alloc (.cells #[.bool neg,.slice a n c,.slice none 0 0] 107)).alloc (.cells (wordCells .u64 [1]) 190)) (w.heap.size+1) [1]:=by
   have:=Blk.new .u64 190 (w.alloc (.cells #[.bool neg,.slice a n c,.slice none 0 0] 107)) [1];rw[World.size_alloc] at this;exact this
  exact⟨_,1,1,rfl,((i.o.alloc _).alloc _).put ⟨[1],rfl,hB.row 1 (by simp) 1 (by omega),⟨fun d q=>by simp at q;omega,.inr (by simp),by simp[val]⟩,by simp⟩ j.o⟩
 .
  obtain⟨s,t,rfl⟩:=e.some (by omega);clear l e;go_enter func124,ntmps124;go_wp2;go_ret;rcases p.o with ⟨h,_⟩|⟨l,e⟩
  . cases h
  . exact⟨_,m,d,rfl,(i.o.alloc _).put (e.below (bR.alloc lZ _)) j.o⟩
theorem Qie(neg:Bool)(a b:Vx)(n c m d t:Nat)(w:Vz)(f:NumV w a n c t):
 Calls prog 129 #[.agg #[.bool neg,.slice a n c,.slice b m d]] w fun e w'=>e=.returned (.bool (decide (t=0)))/\Below w.heap.size w w':=by
 have e:decide (t=0)=((n:Int) == 0):=by
  have:=f.zero_iff;by_cases h:t=0
  . simp[h,this.1 h]
  . rw[decide_eq_false h];symm;rw[beq_eq_false_iff_ne];omega
 rw[e];clear e f;go_enter func129,ntmps129;go_wp2;go_ret;exact⟨rfl,bR.alloc lZ _⟩
theorem Qif(neg:Bool)(a b:Vx)(n c m d:Nat)(q:Rat)(w:Vz)(h:FracAt w neg a n c b m d q):
 Calls prog 117 #[.agg #[.bool neg,.slice a n c,.slice b m d]] w (FNew w (-q)):=by
 have e:mkRat (sgn (!neg) q.num.natAbs) q.den= -q:=by
  rw[Qo5,h.neg,Qby,<-Rat.neg_mkRat,Rat.mkRat_self]
 have y:=Hi (fun w' j=>Qd3 (!neg) a b n c m d q.num.natAbs q.den w' (h.top.below j) ((h.low.below j).lowIn) q.reduced);rw[e] at y;clear h e;go_enter func117,ntmps117;obtain⟨z,i⟩:=Ia (SB.new2 w 107 107 #[.bool neg,.slice a n c,.slice b m d] zeroFrac) (Below.new2 w (.cells #[.bool neg,.slice a n c,.slice b m d] 107) (.cells zeroFrac 107));go_wp2_with fail;go_fit (y.o _ i.o);rintro e B ⟨⟨E,rfl,l⟩,j⟩;obtain⟨f,p,r,s,t,u,d9,rfl,l⟩:=l;have g:=z.o.below j z.o.lt;have C:=g.cell 0;have k1:=g.cell 1;have k2:=g.cell 2;have f0:=g.free 0;have f1:=g.free 1;have f2:=g.free 2;simp[zeroFrac] at C k1 k2;obtain⟨D,k,x⟩:=Ib l g (i.o.trans (j.mono i.o.size));clear l g j;go_wp2
 refine bodyPost_ret (v:=.agg #[.bool f,.slice p r s,.slice t u d9]) (results_cell_row rfl _ _ (w.heap.size+1) 107 #[.bool f,.slice p r s,.slice t u d9] (0,0) _ rfl (((k.o.set 0 _).set 1 _).set 2 _) underlying107 rfl Tryz.fracInfo) rfl ?_;have A:=(((Only.refl (w.heap.size+1) B).setCell 0 (.bool f)).setCell 1 (.slice p r s)).setCell 2 (.slice t u d9);exact⟨⟨_,rfl,f,p,r,s,t,u,d9,rfl,D.o.only A k.o Qbl⟩,Only.fresh x.o A (by omega)⟩
theorem Qdi{P:Program}{e:Func}{p u:Tmp}{ty:Vr}(h:e.results=#[.tmp u,.cell p ty])(a:Vw)(w:Vz)(g:Nat)(t:Vr)(b:Vw)(fr:Nat × Nat)(d:TypeDesc)
 (f:a.getD p undef=.pointer (some ⟨g,0,none⟩)) (i:w.heap[g]?=some (.cells b t fr))
 (j:P.underlying ty=some d) (k:(match d with| .struct _| .array _ _=>true|_=>false)=true) (l:(P.info? ty).map (·.size)=some b.size):
 (results e a).run P w=.ok (.tuple #[a.getD u undef,.agg b]) w:=by
 have c:a[p]?.getD undef=.pointer (some ⟨g,0,none⟩):=by simpa using f
 simp[results,h,c,asAddr,run_loadVar_row w g t ty b fr d i j k l]
theorem Qoy{p q:Bool}{x y:Nat}(h:p≠q)(a:x<=y):sgn q (y - x)=sgn p x+sgn q y:=by
 cases p<;>cases q<;>simp[sgn] at h ⊢ <;>omega
theorem Qoz{p q:Bool}{x y:Nat}(h:p≠q)(a:y<=x):sgn p (x - y)=sgn p x+sgn q y:=by
 cases p<;>cases q<;>simp[sgn] at h ⊢ <;>omega
theorem Qo0(p:Bool)(x y:Nat):sgn p (x+y)=sgn p x+sgn p y:=by
 cases p<;>simp[sgn]<;>omega
theorem Qo1{x j k:Nat}(h:x<2 ^ j)(hk:j<=k):x<2 ^ k:=Nat.lt_of_lt_of_le h (Nat.pow_le_pow_right (by decide) hk)
theorem NBag.grow{w0 w:Vz}{L:List Ent}{a:Vx}{n c x j k:Nat}(h:NBag w0 w (⟨a,n,c,x,j⟩ :: L))(hk:j<=k):NBag w0 w (⟨a,n,c,x,k⟩ :: L):=
 ⟨h.base,fun t b=>by
   rcases List.mem_cons.1 b with rfl|b
   . exact⟨(h.ts _ (List.Mem.head _)).1,Qo1 (h.ts _ (List.Mem.head _)).2 hk⟩
   . exact h.ts t (List.mem_cons_of_mem _ b)⟩
theorem NBag.rebase{w0 w:Vz}{L:List Ent}(h:NBag w0 w L):NBag w w L:=⟨Below.refl _ _,h.ts⟩
def Signed(w0:Vz)(L:List Ent)(k:Nat)(z:Int)(e:Ending)(w':Vz):Prop:=∃r a n c t,e=.returned (.tuple #[.bool r,.slice a n c])/\NBag w0 w' (⟨a,n,c,t,k⟩ :: L)/\sgn r t=z
theorem NBag.addSigned{w0 w:Vz}{L:List Ent}{v z:Vx}{n1 A c1 c2 x y j k:Nat}{p q:Bool}(h:NBag w0 w L)(g:⟨v,n1,c1,x,j⟩∈ L)(i:⟨z,A,c2,y,k⟩∈ L)(t:j+k<274877906000):
 Calls prog 127 #[.bool p,.slice v n1 c1,.bool q,.slice z A c2] w (Signed w0 L (j+k+1) (sgn p x+sgn q y)):=by
 by_cases d:p=q
 .
  subst d;have f:=Hi (h.add g i t);clear h g i t;go_enter func127,ntmps127;go_wp2_with fail;go_fit f.o;rintro e r ⟨a,n,c,rfl,b⟩;have l:=Hi b;clear b f;go_wp2;go_ret2;exact⟨p,a,n,c,x+y,rfl,l.o,Qo0 p x y⟩
 .
  have B:(p == q)=false:=by simpa using d
  obtain⟨s,C,D,E⟩:=Ic (h.compare g i) g i d;clear h g i t d;by_cases u:x<y
  .
   have m:=(Qau x y).2 u;go_enter func127,ntmps127;go_wp2_with fail;go_fit s.o;rintro e r ⟨rfl,b⟩;have f:=Hi (b.sub D.o C.o (by omega));clear b s;go_wp2_with fail;go_fit f.o;rintro e r ⟨a,n,c,rfl,b⟩;have l:=Hi b;clear b f;go_wp2;go_ret2;exact⟨q,a,n,c,y - x,rfl,l.o.grow (by omega),Qoy E.o (by omega)⟩
  .
   have m:¬(cmp3 x y<0):=fun h=>by have:=(Qau x y).1 h;omega
   go_enter func127,ntmps127;go_wp2_with fail;go_fit s.o;rintro e r ⟨rfl,b⟩;have f:=Hi (b.sub C.o D.o (by omega));clear b s;go_wp2_with fail;go_fit f.o;rintro e r ⟨a,n,c,rfl,b⟩;have l:=Hi b;clear b f;go_wp2;go_ret2;exact⟨p,a,n,c,x - y,rfl,l.o.grow (by omega),Qoz E.o (by omega)⟩
theorem Qo2{neg:Bool}{t k g:Nat}(hk:0<k)(b:Nat.gcd t k=g):mkRat (sgn neg (t / g)) (k / g)=mkRat (sgn neg t) k/\Nat.Coprime (t / g) (k / g)/\0<k / g/\0<g:=by
 have d:0<g:=by rw[<-b];exact Nat.gcd_pos_of_pos_right _ hk
 have d1:=b ▸ Nat.gcd_dvd_left _ _;have d2:=b ▸ Nat.gcd_dvd_right _ _;have e:=Nat.div_mul_cancel d1;have c:=Nat.div_mul_cancel d2;refine⟨?_,by have:=Nat.coprime_div_gcd_div_gcd (m:=t) (n:=k) (by omega);rw[b] at this;exact this,?_,d⟩
 .
  rw[<-Rat.mkRat_mul_right (a:=g) (by omega),c]
  congr 1
  have:=Qcg neg false (t / g) g;rw[show sgn false g=(g:Int) from rfl,e,Bool.bne_false] at this;exact this.symm
 .
  rcases Nat.eq_zero_or_pos (k / g) with h|h
  . rw[h] at c;omega
  . exact h
theorem NBag.start{w:Vz}{a b:Vx}{n c m d t k i j:Nat}(f:NumV w a n c t)(hk:NumV w b m d k)(g:t<2 ^ i)(h:k<2 ^ j):NBag w w [⟨a,n,c,t,i⟩,⟨b,m,d,k,j⟩]:=by
 refine⟨Below.refl _ _,fun s e=>?_⟩;simp only[List.mem_cons,List.not_mem_nil,or_false] at e;rcases e with rfl|rfl
 . exact⟨f,g⟩
 . exact⟨hk,h⟩
theorem Qo3(neg:Bool)(a b:Vx)(n c m d t k i j:Nat)(w:Vz)(F:NumV w a n c t)(hk:NumV w b m d k)(H:t<2 ^ i)(I:k<2 ^ j)(J:i+j<137438953000):
 Calls prog 123 #[.bool neg,.slice a n c,.slice b m d] w (FNew w (mkRat (sgn neg t) k)):=by
 have K:=hk.zero_iff;by_cases L:k=0
 .
  have P:=K.1 L;subst L P;rw[Rat.mkRat_zero];have T:=Hi ((Below.refl w.heap.size w).alloc lZ (.cells #[.bool false,.slice none 0 0,.slice none 0 0] 107));clear F hk H I J K;go_enter func123,ntmps123;go_wp2;refine bodyPost_ret (v:=.agg #[.bool false,.slice none 0 0,.slice none 0 0]) (results_cell_row rfl _ _ w.heap.size 107 #[.bool false,.slice none 0 0,.slice none 0 0] (0,0) _ rfl (SB.new w _ _) underlying107 rfl Tryz.fracInfo) rfl ?_;exact⟨⟨_,rfl,FracV.zero _⟩,T.o⟩
 .
  have P:((m:Int) == 0)=false:=by rw[beq_eq_false_iff_ne];omega
  obtain⟨G,hG⟩:=nm (Nat.gcd t k);obtain⟨Q,R,M,U⟩:=Qo2 (neg:=neg) (by omega) hG;rw[<-Q];have g:=Hi (((NBag.start F hk H I).alloc (.cells zeroFrac 107)).rebase);obtain⟨y,r⟩:=nm (w.alloc (.cells zeroFrac 107));obtain⟨s,f⟩:=Ia (SB.new w 107 zeroFrac) ((Below.refl w.heap.size w).alloc lZ (.cells zeroFrac 107));rw[r] at g s f;obtain⟨V,W,N⟩:=Ib R hG r;clear F hk H I K L R hG Q r;go_enter func123,ntmps123;go_wp2_with fail;rw[show w.alloc (.cells #[.bool false,.slice none 0 0,.slice none 0 0] 107)=y from N.o];apply cM;apply NBag.gcd (w0:=y) g.o;(repeat(first|exact mH|apply mT));omega;rw[W.o];rintro e w1 ⟨aG,nG,cG,rfl,l⟩;clear g;have g:=Hi l;clear l;go_wp2_with fail
  apply cM;apply NBag.quot (w0:=y) g.o;(repeat(first|exact mH|apply mT));omega;(first|assumption|omega);rintro e w2 ⟨X,Y,Z,rfl,l⟩;clear g;have g:=Hi l;clear l;go_wp2_with fail;apply cM;apply NBag.quot (w0:=y) g.o;(repeat(first|exact mH|apply mT));omega;(first|assumption|omega);rintro e w3 ⟨aL,nL,cL,rfl,l⟩;clear g;have g:=Hi l;clear l;go_wp2_with fail;have u:=Hi (s.o.below g.o.base s.o.lt);have p:=Hi (f.o.trans (g.o.base.mono f.o.size));clear s f;have s:=u;have f:=p;clear u p
  go_fit (Qd3 neg X aL Y Z nL cL (t / G) (k / G) _ (g.o.get (List.Mem.tail _ (List.Mem.head _))).1 (.inr ⟨M,(g.o.get (List.Mem.head _)).1⟩) V.o);rintro e w9 ⟨⟨v9,rfl,z⟩,l⟩;obtain⟨h,A,B,C,D,E,d9,rfl,z⟩:=z;have q:=s.o.below l s.o.lt;have k0:=q.cell 0;have k1:=q.cell 1;have k2:=q.cell 2;have f0:=q.free 0;have f1:=q.free 1;have f2:=q.free 2;simp[zeroFrac] at k0 k1 k2;obtain⟨HV,x,O⟩:=Ib z q (f.o.trans (l.mono f.o.size));clear z q l;go_wp2;refine bodyPost_ret (v:=.agg #[.bool h,.slice A B C,.slice D E d9]) (results_cell_row rfl _ _ (w.heap.size) 107 #[.bool h,.slice A B C,.slice D E d9] (0,0) _ rfl (((x.o.set 0 _).set 1 _).set 2 _) underlying107 rfl Tryz.fracInfo) rfl ?_;have S:=(((Only.refl (w.heap.size) w9).setCell 0 (.bool h)).setCell 1 (.slice A B C)).setCell 2 (.slice D E d9)
  exact⟨⟨_,rfl,h,A,B,C,D,E,d9,rfl,HV.o.only S x.o Qbl⟩,Only.fresh O.o S (by omega)⟩
theorem NBag.under{w0 w:Vz}{L:List Ent}{neg:Bool}{a b:Vx}{n c m d k e:Nat}(h:NBag w0 w L)(hl:Low w0 b m d k)(hk:k<2 ^ e):
 Calls prog 124 #[.agg #[.bool neg,.slice a n c,.slice b m d]] w (NNew w0 L k e):=Qox neg a b n c m d k e w0 w L h (hl.below h.base) hk
theorem NBag.built{w0 w:Vz}{L:List Ent}{neg:Bool}{a b:Vx}{n c m d t k i j:Nat}(h:NBag w0 w L)(e:⟨a,n,c,t,i⟩∈ L)(f:⟨b,m,d,k,j⟩∈ L)(hk:0<k)(g:Nat.Coprime t k):
 Calls prog 121 #[.bool neg,.slice a n c,.slice b m d] w (FNew w (mkRat (sgn neg t) k)):=Qd3 neg a b n c m d t k w (h.get e).1 (.inr ⟨hk,(h.get f).1⟩) g
theorem NBag.isZero{w0 w:Vz}{L:List Ent}{a b:Vx}{n c t k m d:Nat}{neg:Bool}(h:NBag w0 w L)(f:⟨a,n,c,t,k⟩∈ L):
 Calls prog 129 #[.agg #[.bool neg,.slice a n c,.slice b m d]] w (fun e w'=>e=.returned (.bool (decide (t=0)))/\NBag w0 w' L):=by
 refine(Qie neg a b n c m d t w (h.get f).1).mono ?_;rintro e w' ⟨rfl,g⟩;exact⟨rfl,h.below g⟩
theorem Qig(D E:Bool)(J bx K L:Vx)(M N P Q R S T U i j:Nat)(p q:Rat)(w:Vz)(hx:FracAt w D J M N bx P Q p)(hy:FracAt w E K R S L T U q)(hp:Fits p i)(hq:Fits q j)(aq:i+j<68719476000):
 Calls prog 65 #[.agg #[.bool D,.slice J M N,.slice bx P Q],.agg #[.bool E,.slice K R S,.slice L T U]] w (FNew w (p*q)):=by
 obtain⟨HX,HY,af,ag⟩:=Ic hx hy hp hq;obtain⟨CX,ah⟩:=nm (#[Value.bool D,.slice J M N,.slice bx P Q]);obtain⟨CY,ai⟩:=nm (#[Value.bool E,.slice K R S,.slice L T U]);obtain⟨a,F,G,H,c⟩:=Id ((((((NBag.start hx.top hy.top hp.1 hq.1).alloc (.cells CX 107)).alloc (.cells CY 107)).alloc (.cells zeroFrac 107)).rebase)) (SB.new3 w 107 107 107 CX CY zeroFrac) ((SB.new2 w 107 107 CX CY).alloc (.cells zeroFrac 107)) (((SB.new w 107 CX).alloc (.cells CY 107)).alloc (.cells zeroFrac 107)) (Below.new3 w (.cells CX 107) (.cells CY 107) (.cells zeroFrac 107));obtain⟨A,W⟩:=nm ((((w.alloc (.cells CX 107)).alloc (.cells CY 107)).alloc (.cells zeroFrac 107)));rw[W] at a F G H c;subst ah ai;obtain⟨aj,ak⟩:=Ia (hx.low.below c.o) (hy.low.below c.o);have d:=H.o.lt
 have g:=G.o.lt;obtain⟨h,k,l,m,n,r⟩:=Ie (H.o.cell 0) (H.o.cell 1) (H.o.cell 2) (G.o.cell 0) (G.o.cell 1) (G.o.cell 2);simp at h k l m n r;have X:=Hi W;have ar:w.heap.size+1+1≠w.heap.size:=by omega
 have au:w.heap.size+1+1≠w.heap.size+1:=by omega
 clear hx hy hp hq W;by_cases Y:p.num.natAbs=0
 .
  have al:p=0:=Rat.num_eq_zero.1 (by omega);rw[show p*q=0 by rw[al,Rat.zero_mul]];go_enter func65,ntmps65;obtain⟨s,t,u⟩:=Jb a.o.base d h.o k.o l.o;obtain⟨x,y,z⟩:=Jb a.o.base g m.o n.o r.o;go_wp2_with fail;rw[show (((w.alloc (.cells #[.bool D,.slice J M N,.slice bx P Q] 107)).alloc (.cells #[.bool E,.slice K R S,.slice L T U] 107)).alloc (.cells #[.bool false,.slice none 0 0,.slice none 0 0] 107))=A from X.o];apply cM;apply NBag.isZero (w0:=A) a.o
  (repeat(first|exact mH|apply mT));rw[(decide_eq_true Y)];rintro e w1 ⟨rfl,b⟩;have f:=F.o.below b.base F.o.lt;have k0:=f.cell 0;have k1:=f.cell 1;have k2:=f.cell 2;have f0:=f.free 0;have f1:=f.free 1;have f2:=f.free 2;simp[zeroFrac] at k0 k1 k2;obtain⟨C,I⟩:=Ia f (c.o.trans (b.base.mono c.o.size));clear b f a;go_wp2;refine bodyPost_ret (v:=.agg #[.bool false,.slice none 0 0,.slice none 0 0]) (results_cell_row rfl _ _ (w.heap.size+1+1) 107 #[.bool false,.slice none 0 0,.slice none 0 0] (0,0) _ rfl (((C.o.set 0 _).set 1 _).set 2 _) underlying107 rfl Tryz.fracInfo) rfl ?_;have ho:=(((Only.refl (w.heap.size+1+1) w1).setCell 0 (.bool false)).setCell 1 (.slice none 0 0)).setCell 2 (.slice none 0 0);exact⟨⟨_,rfl,FracV.zero _⟩,Only.fresh I.o ho (by omega)⟩
 .
  by_cases ab:q.num.natAbs=0
  .
   have am:q=0:=Rat.num_eq_zero.1 (by omega);rw[show p*q=0 by rw[am,Rat.mul_zero]];go_enter func65,ntmps65;obtain⟨s,t,u⟩:=Jb a.o.base d h.o k.o l.o;obtain⟨x,y,z⟩:=Jb a.o.base g m.o n.o r.o;go_wp2_with fail;rw[show (((w.alloc (.cells #[.bool D,.slice J M N,.slice bx P Q] 107)).alloc (.cells #[.bool E,.slice K R S,.slice L T U] 107)).alloc (.cells #[.bool false,.slice none 0 0,.slice none 0 0] 107))=A from X.o];apply cM;apply NBag.isZero (w0:=A) a.o
   (repeat(first|exact mH|apply mT));rw[(decide_eq_false Y)];rintro e w1 ⟨rfl,b⟩;clear a;have a:=Hi b;clear b;obtain⟨s,t,u⟩:=Jb a.o.base d h.o k.o l.o;obtain⟨x,y,z⟩:=Jb a.o.base g m.o n.o r.o;go_wp2_with fail;apply cM;apply NBag.isZero (w0:=A) a.o;(repeat(first|exact mH|apply mT));rw[(decide_eq_true ab)];rintro e w2 ⟨rfl,b⟩;have f:=F.o.below b.base F.o.lt;have k0:=f.cell 0;have k1:=f.cell 1;have k2:=f.cell 2;have f0:=f.free 0
   have f1:=f.free 1;have f2:=f.free 2;simp[zeroFrac] at k0 k1 k2;obtain⟨C,I⟩:=Ia f (c.o.trans (b.base.mono c.o.size));clear b f a;go_wp2;refine bodyPost_ret (v:=.agg #[.bool false,.slice none 0 0,.slice none 0 0]) (results_cell_row rfl _ _ (w.heap.size+1+1) 107 #[.bool false,.slice none 0 0,.slice none 0 0] (0,0) _ rfl (((C.o.set 0 _).set 1 _).set 2 _) underlying107 rfl Tryz.fracInfo) rfl ?_;have ho:=(((Only.refl (w.heap.size+1+1) w2).setCell 0 (.bool false)).setCell 1 (.slice none 0 0)).setCell 2 (.slice none 0 0);exact⟨⟨_,rfl,FracV.zero _⟩,Only.fresh I.o ho (by omega)⟩
  .
   obtain⟨he,ad⟩:=Qo6 p q rfl rfl;rw[<-HX.o.neg,<-HY.o.neg] at he;have HE:O (mkRat (sgn (!D == E) (p.num.natAbs / Nat.gcd p.num.natAbs q.den*(q.num.natAbs / Nat.gcd q.num.natAbs p.den))) (p.den / Nat.gcd q.num.natAbs p.den*(q.den / Nat.gcd p.num.natAbs q.den))=p*q):=Hi he;obtain⟨ao,ap⟩:=Ia ad (show 0<p.den / Nat.gcd q.num.natAbs p.den*(q.den / Nat.gcd p.num.natAbs q.den) from Nat.mul_pos (Nat.div_pos (Nat.gcd_le_right _ p.den_pos) (Nat.gcd_pos_of_pos_right _ p.den_pos)) (Nat.div_pos (Nat.gcd_le_right _ q.den_pos) (Nat.gcd_pos_of_pos_right _ q.den_pos)));clear he ad;obtain⟨Z,aa⟩:=Ia (show 0<Nat.gcd p.num.natAbs q.den from Nat.gcd_pos_of_pos_right _ q.den_pos) (show 0<Nat.gcd q.num.natAbs p.den from Nat.gcd_pos_of_pos_right _ p.den_pos);go_enter func65,ntmps65;have s:=ce a.o.base d h.o
   obtain⟨t,u⟩:=Ja a.o.base d k.o l.o;obtain⟨x,y,z⟩:=Jb a.o.base g m.o n.o r.o;go_wp2_with fail;rw[show (((w.alloc (.cells #[.bool D,.slice J M N,.slice bx P Q] 107)).alloc (.cells #[.bool E,.slice K R S,.slice L T U] 107)).alloc (.cells #[.bool false,.slice none 0 0,.slice none 0 0] 107))=A from X.o];apply cM;apply NBag.isZero (w0:=A) a.o;(repeat(first|exact mH|apply mT));rw[(decide_eq_false Y)];rintro e w1 ⟨rfl,b⟩;clear a;have a:=Hi b;clear b;have s:=ce a.o.base d h.o
   obtain⟨t,u⟩:=Ja a.o.base d k.o l.o;obtain⟨x,y,z⟩:=Jb a.o.base g m.o n.o r.o;go_wp2_with fail;apply cM;apply NBag.isZero (w0:=A) a.o;(repeat(first|exact mH|apply mT));rw[(decide_eq_false ab)];rintro e w2 ⟨rfl,b⟩;clear a;have a:=Hi b;clear b;obtain⟨s,t,u⟩:=Jb a.o.base d h.o k.o l.o;have x:=ce a.o.base g m.o
   obtain⟨y,z⟩:=Ja a.o.base g n.o r.o;go_wp2_with fail;go_region_held3
    (fun w'=>w'.cell? ⟨w.heap.size,0,none⟩=some (.bool D)/\w'.cell? ⟨w.heap.size,1,none⟩=some (.slice J M N)/\w'.cell? ⟨w.heap.size,2,none⟩=some (.slice bx P Q)/\w'.cell? ⟨w.heap.size+1,0,none⟩=some (.bool E)/\w'.cell? ⟨w.heap.size+1,1,none⟩=some (.slice K R S)/\w'.cell? ⟨w.heap.size+1,2,none⟩=some (.slice L T U)) ((first|(simp [*];done)|go_keep))
    (first
    |
     (go_at_call_of 124 (Value.agg #[.bool D,.slice J M N,.slice bx P Q])
      apply cM;apply NBag.under (w0:=A) (hl:=aj.o) (hk:=af.o.2);(focus(first|exact a.o|exact a.o.drew|exact a.o.drew.drew));rintro e w3 ⟨aA,nA,cA,rfl,b⟩;clear a;have a:=Hi b;clear b;obtain⟨s,t,u⟩:=Jb a.o.base d h.o k.o l.o;obtain⟨x,y,z⟩:=Jb a.o.base g m.o n.o r.o
      skip)
    |
     (go_at_call_of 124 (Value.agg #[.bool E,.slice K R S,.slice L T U])
      apply cM;apply NBag.under (w0:=A) (hl:=ak.o) (hk:=ag.o.2);(focus(first|exact a.o|exact a.o.drew|exact a.o.drew.drew));rintro e w4 ⟨aB,nB,cB,rfl,b⟩;clear a;have a:=Hi b;clear b;obtain⟨s,t,u⟩:=Jb a.o.base d h.o k.o l.o;obtain⟨x,y,z⟩:=Jb a.o.base g m.o n.o r.o
      skip)
    )
   go_wp2_with fail;go_region_held3
    (fun w'=>w'.cell? ⟨w.heap.size,0,none⟩=some (.bool D)/\w'.cell? ⟨w.heap.size,1,none⟩=some (.slice J M N)/\w'.cell? ⟨w.heap.size,2,none⟩=some (.slice bx P Q)/\w'.cell? ⟨w.heap.size+1,0,none⟩=some (.bool E)/\w'.cell? ⟨w.heap.size+1,1,none⟩=some (.slice K R S)/\w'.cell? ⟨w.heap.size+1,2,none⟩=some (.slice L T U)) ((first|(simp [*];done)|go_keep))
    ((skip
      first
       |(
        go_at_call 125;apply cM
        apply NBag.gcd (w0:=A))
       |(
        go_at_call 126;apply cM
        apply NBag.quot (w0:=A))
       |(
        go_at_call 128;apply cM
        apply NBag.mul (w0:=A))
      (focus(first|exact a.o|exact a.o.drew|exact a.o.drew.drew));(repeat(first|exact mH|apply mT));omega
      try (focus(first|exact Z.o|exact aa.o))
      rintro e wn ⟨an,nn,cn,rfl,b⟩;clear a;have a:=Hi b;clear b;obtain⟨s,t,u⟩:=Jb a.o.base d h.o k.o l.o;obtain⟨x,y,z⟩:=Jb a.o.base g m.o n.o r.o
      skip))
   go_wp2_with fail;go_region_held3
    (fun w'=>w'.cell? ⟨w.heap.size,0,none⟩=some (.bool D)/\w'.cell? ⟨w.heap.size,1,none⟩=some (.slice J M N)/\w'.cell? ⟨w.heap.size,2,none⟩=some (.slice bx P Q)/\w'.cell? ⟨w.heap.size+1,0,none⟩=some (.bool E)/\w'.cell? ⟨w.heap.size+1,1,none⟩=some (.slice K R S)/\w'.cell? ⟨w.heap.size+1,2,none⟩=some (.slice L T U)) ((first|(simp [*];done)|go_keep))
    ((skip
      first
       |(
        go_at_call 125;apply cM
        apply NBag.gcd (w0:=A))
       |(
        go_at_call 126;apply cM
        apply NBag.quot (w0:=A))
       |(
        go_at_call 128;apply cM
        apply NBag.mul (w0:=A))
      (focus(first|exact a.o|exact a.o.drew|exact a.o.drew.drew));(repeat(first|exact mH|apply mT));omega
      try (focus(first|exact Z.o|exact aa.o))
      rintro e wn ⟨an,nn,cn,rfl,b⟩;clear a;have a:=Hi b;clear b;obtain⟨s,t,u⟩:=Jb a.o.base d h.o k.o l.o;obtain⟨x,y,z⟩:=Jb a.o.base g m.o n.o r.o
      skip))
   go_wp2_with
    ((skip
      first
       |(
        go_at_call 125;apply cM
        apply NBag.gcd (w0:=A))
       |(
        go_at_call 126;apply cM
        apply NBag.quot (w0:=A))
       |(
        go_at_call 128;apply cM
        apply NBag.mul (w0:=A))
      (focus(first|exact a.o|exact a.o.drew|exact a.o.drew.drew));(repeat(first|exact mH|apply mT));omega
      try (focus(first|exact Z.o|exact aa.o))
      rintro e wn ⟨an,nn,cn,rfl,b⟩;clear a;have a:=Hi b;clear b;obtain⟨s,t,u⟩:=Jb a.o.base d h.o k.o l.o;obtain⟨x,y,z⟩:=Jb a.o.base g m.o n.o r.o
      skip))
   have ae:=Hi (F.o.below a.o.base F.o.lt);have V:=Hi (c.o.trans (a.o.base.mono c.o.size));clear F c;have F:=ae;have c:=V;clear ae V;apply cM;apply NBag.built (w0:=A) a.o;(repeat(first|exact mH|apply mT));(focus(exact ap.o));(focus(exact ao.o));rw[HE.o];rintro e w9 ⟨⟨v9,rfl,hv⟩,b⟩;obtain⟨B,a9,n9,c9,b9,m9,d9,rfl,hv⟩:=hv;have f:=F.o.below b F.o.lt;have k0:=f.cell 0;have k1:=f.cell 1;have k2:=f.cell 2;have f0:=f.free 0;have f1:=f.free 1;have f2:=f.free 2;simp[zeroFrac] at k0 k1 k2;obtain⟨HV,C,I⟩:=Ib hv f (c.o.trans (b.mono c.o.size));clear hv f b;go_wp2
   refine bodyPost_ret (v:=.agg #[.bool B,.slice a9 n9 c9,.slice b9 m9 d9]) (results_cell_row rfl _ _ (w.heap.size+1+1) 107 #[.bool B,.slice a9 n9 c9,.slice b9 m9 d9] (0,0) _ rfl (((C.o.set 0 _).set 1 _).set 2 _) underlying107 rfl Tryz.fracInfo) rfl ?_;have ho:=(((Only.refl (w.heap.size+1+1) w9).setCell 0 (.bool B)).setCell 1 (.slice a9 n9 c9)).setCell 2 (.slice b9 m9 d9);exact⟨⟨_,rfl,B,a9,n9,c9,b9,m9,d9,rfl,HV.o.only ho C.o Qbl⟩,Only.fresh I.o ho (by omega)⟩
theorem Qeo(s:Vs):s.toList= []↔s.data.toList= []:=by rw[Lib.toList_data]
def DigAns(s:Vs)(w:Vz)(e:Ending)(w':Vz):Prop:=(∃v,e=.returned (.bool v)/\(v=true↔IsDig s.data.toList))/\w'=w
theorem Qk4(s:Vs)(w:Vz)(q:s.size<=1073741824):
 Calls prog 120 #[.string s] w (DigAns s w):=by
 go_enter func120,ntmps120;go_wp2;go_loop [6] (fun i=>∃k:Nat,k<=s.size/\i=.int .i64 k/\AllDigits (s.data.toList.take k)) (fun i=>s.size - (intOf i).toNat)
 case atStart=>exact⟨0,by omega,rfl,fun c a=>by simp at a⟩
 case round=>
  obtain⟨k,hk,rfl,f⟩:=hrel;have g:=Hi f;clear f;by_cases b:k<s.size
  .
   have l:=Hi (Qfp s k b);have r:(0:Int)<=(k:Int):=by omega
   have t:(k:Int)<(s.size:Int):=by omega
   have j:O (s[k]∈ s.data.toList):=Hi (List.mem_iff_getElem.2 ⟨k,by simpa using b,rfl⟩);by_cases u:s[k].toNat<48
   .
    have m:((s[k].toNat:Int)<48):=by omega
    go_wp2;go_ret;refine⟨⟨false,rfl,?_⟩,rfl⟩;constructor
    . intro h;cases h
    . intro h;have:=(h.2 _ j.o).1;omega
   .
    have m:¬((s[k].toNat:Int)<48):=by omega
    by_cases v:57<s[k].toNat
    .
     have n:((57:Int)<(s[k].toNat:Int)):=by omega
     go_wp2;go_ret;refine⟨⟨false,rfl,?_⟩,rfl⟩;constructor
     . intro h;cases h
     . intro h;have:=(h.2 _ j.o).2;omega
    .
     have n:¬((57:Int)<(s[k].toNat:Int)):=by omega
     go_wp2;go_round
     case rel=>
      refine⟨k+1,by omega,by go_num,?_⟩;rw[l.o];intro c a;rcases List.mem_append.1 a with a|a
      . exact g.o c a
      . rw[List.mem_singleton.1 a];omega
     case measure=>simp[intOf];omega
  .
   have e:k=s.size:=by omega
   subst e;have p:=Hi (by have:=g.o;rwa [List.take_of_length_le (by simp)] at this);by_cases d:s.toList= []
   .
    go_wp2;go_ret;refine⟨⟨_,rfl,?_⟩,rfl⟩;have:¬IsDig s.data.toList:=fun h=>h.1 ((Qeo s).1 d)
    simp[d,this]
   .
    go_wp2;go_ret;refine⟨⟨_,rfl,?_⟩,rfl⟩;have:IsDig s.data.toList:=⟨fun h=>d ((Qeo s).2 h),p.o⟩;simp[d,this]
theorem Qk5(s:Vs)(w:Vz)(C:s.size<=19)(n:AllDigits s.data.toList):
 Calls prog 175 #[.string s] w fun e w'=>e=.returned (.int .u64 ((decVal s.data.toList:Nat):Int))/\w'=w:=by
 have p:=Hi n;clear n;go_enter func175,ntmps175;go_wp2;go_loop [3,7] (fun r i=>∃k v:Nat,k<=s.size/\i=.int .i64 k/\r=.int .u64 v/\decVal (s.data.toList.take k)=v) (fun _ i=>s.size - (intOf i).toNat)
 case atStart=>exact⟨0,0,by omega,rfl,rfl,by simp[decVal]⟩
 case round=>
  obtain⟨k,v,hk,rfl,rfl,b⟩:=hrel;have j:=Hi b;clear b;by_cases c:k<s.size
  .
   have a:=Qfq p.o k c;have q:=Hi (Qfp s k c);obtain⟨d,t,f,u⟩:=Qjo s[k] a.1 a.2;have l:=Hi f;have D:(0:Int)<=(k:Int):=by omega
   have E:(k:Int)<(s.size:Int):=by omega
   have x:(48:Int)+(d:Int) - 48=d:=by omega
   have y:v<1000000000000000000:=by
    have z:=Qa1 _ (p.o.take k);rw[j.o] at z;have A:(s.data.toList.take k).length<=18:=by rw[List.length_take];omega
    have F:10 ^ (s.data.toList.take k).length<=10 ^ 18:=Nat.pow_le_pow_right (by decide) A;omega
   obtain⟨h,g⟩:∃h,v*10+d=h:=⟨_,rfl⟩;have B:=Hi g;have G:(v:Int)*10+(d:Int)=(h:Int):=by omega
   clear f a g;go_wp2;go_round
   case rel=>exact⟨k+1,h,by omega,by go_num,by go_num,by rw[q.o,Qdv,j.o,l.o,<-B.o];omega⟩
   case measure=>simp[intOf];omega
  .
   have m:k=s.size:=by omega
   subst m;go_wp2;go_ret;have b:=j.o;rw[List.take_of_length_le (by simp)] at b;exact⟨by rw[b];rfl,rfl⟩
structure OwnB (w:Vz) (B g cap:Nat) (ws:Vy):Prop where
 base:B<=g
 fit:ws.length<=cap
 most:cap<=maxLen
 blk:∃C,SB w g 190 C/\C.size=cap/\C.toList.take ws.length=ws.map (fun n:Nat=>Value.int .u64 n)
theorem OwnB.lt{w:Vz}{B g a:Nat}{b:Vy}(h:OwnB w B g a b):g<w.heap.size:=by obtain⟨C,h,_⟩:=h.blk;exact h.lt
theorem OwnB.owns{w:Vz}{B g a:Nat}{b:Vy}(h:OwnB w B g a b):w.ownsRow B 190 1 (.slice (some ⟨g,0,none⟩) b.length a) b.length (b.map (fun n:Nat=>Value.int .u64 n)):=by
 obtain⟨C,c,e,d⟩:=h.blk;exact⟨by simp,.inr ⟨g,a,C,rfl,h.base,c,h.fit,h.most,by omega,by rw[Nat.mul_one];exact d⟩⟩
theorem OwnB.of{w:Vz}{B g n a:Nat}{c:Vy}(f:c.length=n)(h:w.ownsRow B 190 1 (.slice (some ⟨g,0,none⟩) n a) n (c.map (fun n:Nat=>Value.int .u64 n))):OwnB w B g a c:=by
 rcases h.2 with ⟨h,_⟩|⟨o,cap',C,i,j,k,p,l,d,e⟩
 . cases h
 .
  injection i with b q m
  injection b with b
  injection b with b _ _
  subst b;subst m;rw[Nat.mul_one] at d e;exact⟨j,by omega,l,C,k,d,by rw[f];exact e⟩
theorem OwnB.at{w:Vz}{B g b:Nat}{a:Vy}(h:OwnB w B g b a)(i:Nat)(c:i<a.length):w.cell? ⟨g,i,none⟩=some (.int .u64 ((a.getD i 0:Nat):Int)):=by
 obtain⟨C,d,j,f⟩:=h.blk;rw[d.cell];have e:(C.toList.take a.length)[i]?=(a.map (fun n:Nat=>Value.int .u64 (n:Int)))[i]?:=by rw[f]
 rw[List.getElem?_take_of_lt c,List.getElem?_map,gE c] at e;rw[Array.getElem?_toList] at e;rw[e,List.getD_eq_getElem?_getD,gE c];rfl
theorem OwnB.free{w:Vz}{B g a:Nat}{b:Vy}(h:OwnB w B g a b)(i:Nat):w.frozen? ⟨g,i,none⟩=false:=by
 obtain⟨C,c,_⟩:=h.blk;exact c.free i
theorem OwnB.set{w:Vz}{B g a:Nat}{b:Vy}(h:OwnB w B g a b)(i x:Nat):OwnB (w.setCell ⟨g,i,none⟩ (.int .u64 (x:Int))) B g a (b.set i x):=by
 obtain⟨C,c,d,e⟩:=h.blk;refine⟨h.base,by rw[List.length_set];exact h.fit,h.most,_,c.set i _,by rw[Array.size_setIfInBounds];exact d,?_⟩;rw[List.length_set,Array.toList_setIfInBounds,List.take_set,e,List.map_set]
theorem OwnB.pre{w:Vz}{B g a:Nat}{b:Vy}(h:OwnB w B g a b):Pre w g b:=by
 have d:=h;obtain⟨C,c,f,j⟩:=h.blk;exact⟨C,c,fun i e=>by rw[<-c.cell];exact d.at i e⟩
theorem Qts{a:Vy}{x:Nat}(c:Small 18446744073709551616 a)(d:val 18446744073709551616 a=x)(b:a.length=0∨18446744073709551616 ^ (a.length - 1)<=x):Num 18446744073709551616 a x:=by
 refine⟨c,?_,d⟩;rcases b with b|b
 . left;exact List.length_eq_zero_iff.1 b
 .
  by_cases f:a.length=0
  . left;exact List.length_eq_zero_iff.1 f
  right;intro e;obtain⟨j,g⟩:∃j,a.length=j+1:=⟨a.length - 1,by omega⟩;have h:=Qbv 18446744073709551616 a j (by omega);rw[g,Nat.add_sub_cancel] at e b;rw[e,Nat.mul_zero,Nat.add_zero,List.take_of_length_le (by omega),d] at h;have i:=Qab (B:=18446744073709551616) (by decide) (c.take j);rw[List.length_take,Nat.min_eq_left (by omega)] at i;omega
theorem Qtt{B k over d R h l a:Nat}{rs b:Vy}(hk:k<rs.length)(c:b.getD k 0=d)(e:l+B*h=d*R+over)(g:val B (rs.take k)+B ^ k*over=val B (b.take k)*R+a):
 val B ((rs.set k l).take (k+1))+B ^ (k+1)*h=val B (b.take (k+1))*R+a:=by
 rw[take_set _ _ _ hk,Qal,List.length_take,Nat.min_eq_left (by omega),Qae,c,Nat.pow_succ];have f:B ^ k*(l+B*h)=B ^ k*(d*R+over):=by rw[e]
 rw[Nat.mul_add,Nat.mul_add,<-Nat.mul_assoc] at f;rw[Nat.add_mul,Nat.mul_assoc (B ^ k) d R];omega
theorem Tryz.info64':∃i,prog.info? 190=some i/\i.zero=some (.int .u64 0)/\i.size=1/\i.bytes=8:=info_parts Tryz.info64
theorem Qkz(B g s:Nat)(c:Vy)(x a:Nat)(w:Vz)(h:OwnB w B g s c)(hx:Num 18446744073709551616 c x)(hc:a<18446744073709551616)(hl:c.length<1099511627770)(z:B<=w.heap.size):
 Calls prog 174 #[.slice (some ⟨g,0,none⟩) c.length s,.int .u64 a] w fun e w'=>(∃g' cap' t,e=.returned (.slice (some ⟨g',0,none⟩) (List.length t) cap')/\OwnB w' B g' cap' t/\Num 18446744073709551616 t (x*10000000000000000000+a)/\t.length<=c.length+1)/\Below B w w'/\w.heap.size<=w'.heap.size:=by
 obtain⟨i0,hi,A,C,hz2⟩:=Tryz.info64';obtain⟨HI,U,V,W⟩:=Ic hi A C hz2;have ah:=h.fit;obtain⟨R,D⟩:=Ia h hx;clear h hx hi A C hz2;go_enter func174,ntmps174;go_wp2;go_loopw [5,10] (fun ov X wr=>∃(k over:Nat) (rs:Vy),k<=c.length/\X=.int .i64 k/\ov=.int .u64 over/\over<18446744073709551616/\OwnB wr B g s rs/\rs.length=c.length/\Small 18446744073709551616 rs/\(∀p,k<=p->rs.getD p 0=c.getD p 0)/\val 18446744073709551616 (rs.take k)+18446744073709551616 ^ k*over=val 18446744073709551616 (c.take k)*10000000000000000000+a/\Only g w wr) (fun _ X _=>c.length - (intOf X).toNat)
 case atStart=>exact⟨0,a,c,by omega,rfl,rfl,hc,R.o,rfl,D.o.small,fun _ _=>rfl,by simp[val],Only.refl _ _⟩
 case round=>
  obtain⟨k,over,rs,hk,rfl,rfl,E,f,F,G,H,hv,I⟩:=hrel;obtain⟨i,b,y,J,HV,j⟩:=Ie f F G H hv I;have aj:=f.lt;clear f F G H hv I;by_cases ak:k<c.length
  .
   obtain⟨d,S⟩:=nm (c.getD k 0);have Y:d<18446744073709551616:=by rw[<-S];exact D.o.small.getD (by omega) k
   have g1:=i.o.free k;have T:=i.o.at k (by have:=b.o;omega);rw[J.o k lZ,S] at T;obtain⟨h,l,hh,Z,K,L⟩:=Qdd d 10000000000000000000 over Y (by decide) E;obtain⟨M,HD,aa⟩:=Ib L S K;clear L S K;go_wp2_with fail;go_fit (M.o _);rintro e w2 ⟨rfl,ab⟩;subst ab;clear M;go_wp2;go_roundw
   case rel=>
    refine⟨k+1,h,rs.set k l,by omega,by go_num,rfl,hh,i.o.set k l,by rw[List.length_set];exact b.o,y.o.set _ Z,?_,Qtt (by have:=b.o;omega) HD.o aa.o HV.o,j.o.setCell _ _⟩;intro p hp;rw[getD_set_ne _ _ _ _ (by omega)];exact J.o p (by omega)
   case measure=>simp[intOf];omega
  .
   have ad:k=c.length:=by omega
   subst ad;have N:O (val 18446744073709551616 rs+18446744073709551616 ^ rs.length*over=x*10000000000000000000+a):=Hi (by
    have:=HV.o;rw[List.take_of_length_le (by rw[b.o];exact Nat.le_refl _),List.take_length,D.o.eq] at this
    rw[b.o];exact this)
   by_cases ae:over=0
   .
    subst ae;go_wp2;go_ret;have hv3:=N.o;rw[Nat.mul_zero,Nat.add_zero] at hv3;refine⟨⟨g,s,rs,by rw[b.o];rfl,i.o,Qts y.o hv3 ?_,by rw[b.o];omega⟩,j.o.below R.o.base z,j.o.size⟩;by_cases hz:rs.length=0
    . exact .inl hz
    right;rw[b.o] at hz ⊢;have h1:18446744073709551616 ^ (c.length - 1)<=x:=by have:=D.o.trim.pow_le (B:=18446744073709551616) (by omega);rw[D.o.eq] at this;exact this
    omega
   .
    have q0:((over:Int) != 0)=true:=by rw[bne_iff_ne];omega
    have al:=Hi b.o;have am:=j.o.size;rw[<-b.o];have ai:rs.length<1099511627770:=by rw[b.o];exact hl
    go_wp2_with (at_builtin;refine wpList_append_lies _ rfl _ _ 105 rfl B 190 i0 (.int .u64 0) 1 8 underlying105 HI.o U.o V.o W.o rfl (by decide) _ rs.length (rs.map (fun n:Nat=>Value.int .u64 n)) rfl (Qbn i.o.owns (bR.alloc lZ _)) ⟨wr.heap.size,0,none⟩ 1 1 [Value.int .u64 (over:Int)] rfl rfl ?c1 ?c2 (by decide) ?c3 ?c4 ?c5 _ rfl ?_)
    case c1=>exact World.news_of_block (heap_alloc_new wr _)
    case c2=>intro u hu;rw[List.mem_singleton.1 hu];rfl
    case c3=>unfold maxLen;omega
    case c4=>omega
    case c5=>rw[World.size_alloc];omega
    intro T v w3 m r af P;have ag:O (OwnB w3 B T v (rs++ [over])):=Hi (OwnB.of (n:=rs.length+1) (by simp) (by rw[List.map_append];exact m));have HG:=Hi r;clear m r af P;go_wp2;go_ret;have Q:=Below.grown ((j.o.below R.o.base z).alloc (by omega) _) HG.o (by rw[World.size_alloc];omega) (fun q hq=>by
     simp[Value.ownBlock] at hq;subst hq;exact R.o.base)
    refine⟨⟨T,v,rs++ [over],by simp,ag.o,?_,by rw[List.length_append,b.o];simp⟩,Q,Q.size⟩;refine⟨y.o.append (fun e he=>by rw[List.mem_singleton.1 he];exact E),.inr ?_,by rw[Qal];exact N.o⟩;simp;omega
theorem Qtu(L:Int)(n:Nat)(b:L=n)(g:n<=2199023255552)(w:Vz):
 (Instr.makeSlice 105 (.int .i64 0) (.int .i64 L)).run prog w=.ok (.slice (some ⟨w.heap.size,0,none⟩) 0 n) (w.alloc (.cells (wordCells .u64 (zeros n)) 190)):=by
 subst b;obtain⟨i,c,d,e,f⟩:=Tryz.info64';have a:=run_make (P:=prog) w 105 190 i (.int .u64 0) underlying105 c d .i64 .i64 0 n (by omega) (by omega) (by rw[f];omega) (by omega);simp only[Int.toNat_natCast,e,Nat.mul_one] at a;rw[<-Qei];exact a
theorem Qk0(l:Vu):decVal (48 :: l)=decVal l:=by
 unfold decVal;rw[List.foldl_cons];rfl
theorem Qtv(l:Vu):decVal (Lib.trimLeftB l 48)=decVal l:=by
 induction l with
 |nil=>rfl
 |cons c l a=>
  unfold Lib.trimLeftB at a ⊢;rw[List.dropWhile_cons]
  split
  .
   rename_i h;have:c=48:=by simpa using h
   rw[a,this,Qk0]
  . rfl
theorem Qtw{l:Vu}(h:AllDigits l):AllDigits (Lib.trimLeftB l 48):=fun c a=>h c ((List.dropWhile_sublist _).mem a)
theorem Qtx(l:Vu):(Lib.trimLeftB l 48).length<=l.length:=(List.dropWhile_sublist _).length_le
theorem Qah(s:Vs):s.data.toList.length=s.size:=by simp
theorem Qk1(r:Vs)(N:Nat)(a:N<=r.size):r.data.toList=(r.extract 0 N).data.toList++(r.extract N r.size).data.toList/\(r.extract 0 N).size=N/\(r.extract N r.size).size=r.size - N:=by
 have hl:=Qah r;refine⟨?_,by simp;omega,by simp⟩;rw[Lib.extract_data,Lib.extract_data,List.drop_zero,Nat.sub_zero,List.take_of_length_le (l:=r.data.toList.drop N) (by rw[List.length_drop];omega),List.take_append_drop]
def strLen:Value->Nat
 | .string s=>s.size
 |_=>0
theorem Qty(s:Vs)(w:Vz):
 Calls prog 173 #[.string s,.string ⟨#[48]⟩] w fun e w'=>e=.returned (.string ⟨(Lib.trimLeftB s.data.toList 48).toArray⟩)/\w'=w:=Any.strings_TrimLeft_one Tryz.lays161 s 48 (by decide) w
theorem Qk2(s:Vs)(w:Vz)(hs:s.size<=1073741824)(hd:AllDigits s.data.toList):
 Calls prog 122 #[.string s] w (Nat64 w (decVal s.data.toList)):=by
 obtain⟨t,ht⟩:=nm ((⟨(Lib.trimLeftB s.data.toList 48).toArray⟩:ByteArray));have C:t.data.toList=Lib.trimLeftB s.data.toList 48:=by rw[<-ht]
 have ag:t.size<=1073741824:=by
  have:=Qtx s.data.toList;rw[<-C,Qah,Qah] at this;omega
 obtain⟨HV,HD,I⟩:=Ib (show decVal t.data.toList=decVal s.data.toList by rw[C,Qtv]) (show AllDigits t.data.toList by rw[C];exact Qtw hd) (Qty s w);rw[ht] at I;clear ht C hd;obtain⟨q,hq⟩:∃q:Nat,t.size / 19=q:=⟨_,rfl⟩;have q1:(t.size:Int) / 19=(q:Int):=by omega
 have q2:Int.tdiv (t.size:Int) 19=(q:Int):=by rw[<-q1];exact Int.tdiv_eq_ediv_of_nonneg (by omega)
 have ah:q<=1073741824:=by omega
 have aa:∀w,(Instr.makeSlice 105 (.int .i64 0) (.int .i64 ((q:Int)+1))).run prog w=.ok (.slice (some ⟨w.heap.size,0,none⟩) 0 (q+1)) (w.alloc (.cells (wordCells .u64 (zeros (q+1))) 190)):=
  fun w=>Qtu _ (q+1) (by omega) (by omega) w
 go_enter func122,ntmps122;go_wp2_with fail;go_fit I.o;rintro e w ⟨rfl,hw⟩;subst hw;clear I;go_wp2_with fail;clear aa q1 q2;go_loopw [0,3] (fun sv xv wr=>∃(r:Vs) (b:Vu) (g p:Nat) (E:Vy),sv=.string r/\xv=.slice (some ⟨g,0,none⟩) E.length p/\t.data.toList=b++r.data.toList/\(b= []∨r.size % 19=0)/\OwnB wr w.heap.size g p E/\Num 18446744073709551616 E (decVal b)/\E.length<=b.length/\Below w.heap.size w wr) (fun sv _ _=>strLen sv)
 case atStart=>
  refine⟨t,[],w.heap.size,q+1,[],rfl,rfl,rfl,.inl rfl,⟨Nat.le_refl _,by simp,by unfold maxLen;omega,_,SB.new _ _ _,by simp[wordCells,zeros],by simp⟩,Num.zero _,by simp,bR.alloc lZ _⟩
 case round=>
  obtain⟨r,b,g,p,E,rfl,rfl,a,F,G,H,af,hb⟩:=hrel;have HF:=Hi F;clear F;obtain⟨HC,Z,HN,T⟩:=Ic a G H hb;have ai:b.length+r.size=t.size:=by rw[<-Qah r,<-Qah t,a,List.length_append]
  have U:O (AllDigits r.data.toList):=Hi (fun c W=>HD.o c (by rw[a];exact List.mem_append_right _ W));clear a G H hb;by_cases h0:r.toList= []
  .
   go_wp2;go_ret;have ab:=(Qeo r).1 h0;have n:b=t.data.toList:=by have:=HC.o;rw[ab,List.append_nil] at this;exact this.symm
   refine⟨⟨_,_,E,rfl,Z.o.pre.row _ Z.o.fit,?_,by omega⟩,T.o⟩;rw[<-HV.o,<-n];exact HN.o
  .
   have aj:0<r.size:=by
    rcases Nat.eq_zero_or_pos r.size with h|h
    . exact absurd ((Qeo r).2 (List.length_eq_zero_iff.1 (by rw[Qah];exact h))) h0
    . exact h
   have ak:r.toList.isEmpty=false:=by simp[h0]
   obtain⟨m,hm⟩:∃m:Nat,r.size % 19=m:=⟨_,rfl⟩;have m1:(r.size:Int) % 19=(m:Int):=by omega
   have m2:Int.tmod (r.size:Int) 19=(m:Int):=by rw[<-m1];exact Int.tmod_eq_emod_of_nonneg (by omega)
   by_cases ad:m=0
   .
    subst ad;obtain⟨a,k,J⟩:=Qk1 r 19 (by omega);have j:=Hi a;have u:O (AllDigits (r.extract 0 19).data.toList):=Hi (fun c W=>U.o c (by rw[a];exact List.mem_append_left _ W));have d:=Hi (fun w=>Qk5 (r.extract 0 19) w (by omega) u.o);obtain⟨V,D⟩:=nm (decVal (r.extract 0 19).data.toList);have K:V<18446744073709551616:=by
     have h1:=Qa1 _ u.o;rw[D,Qah,k] at h1;have h3:10 ^ 19<=10 ^ 19:=Nat.pow_le_pow_right (by decide) (by omega);omega
    rw[D] at d;obtain⟨v,l⟩:=Ia D (k.trans rfl);obtain⟨CH,f⟩:=nm (r.extract 0 19);obtain⟨RS,i⟩:=nm (r.extract 19 r.size);rw[f,i] at j;rw[f] at l v d;rw[i] at J;obtain⟨L,M,x⟩:=Ib f i (Qkz w.heap.size g p E (decVal b) V wr Z.o HN.o K (by omega) T.o.size);clear a k D f i;go_wp2_with fail;rw[L.o];go_fit (d.o _);rintro e w2 ⟨rfl,N⟩;subst N;clear d;go_wp2_with fail;go_fit x.o;rintro e w3 ⟨⟨g3,y,P,rfl,z,A,ae⟩,B,X⟩;obtain⟨Q,R,S⟩:=Ib z A (T.o.trans B);clear x z A B;go_wp2;rw[M.o];go_roundw
    case rel=>
     refine⟨RS,b++CH.data.toList,g3,y,P,rfl,rfl,?_,.inr (by omega),Q.o,?_,?_,S.o⟩
     . rw[HC.o,j.o,List.append_assoc]
     . rw[Qce,v.o,Qah,l.o,show (10:Nat) ^ 19=10000000000000000000 from rfl]
       exact R.o
     . rw[List.length_append,Qah,l.o];omega
    case measure=>simp[strLen];omega
   .
    have z0:((m:Int) == 0)=false:=by rw[beq_eq_false_iff_ne];omega
    have n:decVal b*10 ^ m=decVal b*10000000000000000000:=by rcases HF.o with h|h;rw[h];simp[decVal];omega
    have Y:=Hi n;clear n;obtain⟨a,k,J⟩:=Qk1 r m (by omega);have j:=Hi a;have u:O (AllDigits (r.extract 0 m).data.toList):=Hi (fun c W=>U.o c (by rw[a];exact List.mem_append_left _ W));have d:=Hi (fun w=>Qk5 (r.extract 0 m) w (by omega) u.o);obtain⟨V,D⟩:=nm (decVal (r.extract 0 m).data.toList);have K:V<18446744073709551616:=by
     have h1:=Qa1 _ u.o;rw[D,Qah,k] at h1;have h3:10 ^ m<=10 ^ 19:=Nat.pow_le_pow_right (by decide) (by omega);omega
    rw[D] at d;obtain⟨v,l⟩:=Ia D (k.trans rfl);obtain⟨CH,f⟩:=nm (r.extract 0 m);obtain⟨RS,i⟩:=nm (r.extract m r.size);rw[f,i] at j;rw[f] at l v d;rw[i] at J;obtain⟨L,M,x⟩:=Ib f i (Qkz w.heap.size g p E (decVal b) V wr Z.o HN.o K (by omega) T.o.size);clear a k D f i;go_wp2_with fail;rw[L.o];go_fit (d.o _);rintro e w2 ⟨rfl,N⟩;subst N;clear d;go_wp2_with fail;go_fit x.o;rintro e w3 ⟨⟨g3,y,P,rfl,z,A,ae⟩,B,X⟩;obtain⟨Q,R,S⟩:=Ib z A (T.o.trans B);clear x z A B;go_wp2;rw[M.o];go_roundw
    case rel=>
     refine⟨RS,b++CH.data.toList,g3,y,P,rfl,rfl,?_,.inr (by omega),Q.o,?_,?_,S.o⟩
     . rw[HC.o,j.o,List.append_assoc]
     . rw[Qce,v.o,Qah,l.o,Y.o]
       exact R.o
     . rw[List.length_append,Qah,l.o];omega
    case measure=>simp[strLen];omega
theorem FracAt.drew{w:Vz}{neg:Bool}{a b:Vx}{n c m d:Nat}{q:Rat}(h:FracAt w neg a n c b m d q):FracAt w.drew neg a n c b m d q:=h.below bR.drew
theorem Qo8{p q:Rat}{a c r:Bool}{t:Nat}(d:a=decide (p.num<0))(f:c=decide (q.num<0))(h:sgn r t=sgn a (p.num.natAbs*(q.den / Nat.gcd p.den q.den))+sgn c (q.num.natAbs*(p.den / Nat.gcd p.den q.den))):
 mkRat (sgn r (t / Nat.gcd t (Nat.gcd p.den q.den))) (p.den / Nat.gcd p.den q.den*(q.den / Nat.gcd t (Nat.gcd p.den q.den)))=p+q/\Nat.Coprime (t / Nat.gcd t (Nat.gcd p.den q.den)) (p.den / Nat.gcd p.den q.den*(q.den / Nat.gcd t (Nat.gcd p.den q.den))):=by
 refine Qo7 p q rfl ?_ rfl;have e:∀(b:Bool) (u v:Nat),sgn b (u*v)=sgn b u*(v:Int):=fun b u v=>by have:=Qcg b false u v;rw[Bool.bne_false] at this;exact this
 rw[h,e,e,d,f,Qby,Qby]
theorem Qik(M N:Bool)(P bx Q R:Vx)(S T U V W X Y Z i j:Nat)(p q:Rat)(w:Vz)(hx:FracAt w M P S T bx U V p)(hy:FracAt w N Q W X R Y Z q)(hp:Fits p i)(hq:Fits q j)(au:i+j<68719476000):
 Calls prog 64 #[.agg #[.bool M,.slice P S T,.slice bx U V],.agg #[.bool N,.slice Q W X,.slice R Y Z]] w (FNew w (p+q)):=by
 obtain⟨HX,HY,ah,ai⟩:=Ic hx hy hp hq;obtain⟨CX,aj⟩:=nm (#[Value.bool M,.slice P S T,.slice bx U V]);obtain⟨CY,ak⟩:=nm (#[Value.bool N,.slice Q W X,.slice R Y Z]);obtain⟨a,H,z,A,b⟩:=Id ((((((NBag.start hx.top hy.top hp.1 hq.1).alloc (.cells CX 107)).alloc (.cells CY 107)).alloc (.cells zeroFrac 107)).rebase)) (SB.new3 w 107 107 107 CX CY zeroFrac) ((SB.new2 w 107 107 CX CY).alloc (.cells zeroFrac 107)) (((SB.new w 107 CX).alloc (.cells CY 107)).alloc (.cells zeroFrac 107)) (Below.new3 w (.cells CX 107) (.cells CY 107) (.cells zeroFrac 107));obtain⟨f,aa⟩:=nm ((((w.alloc (.cells CX 107)).alloc (.cells CY 107)).alloc (.cells zeroFrac 107)));rw[aa] at a H z A b;subst aj ak;obtain⟨al,am⟩:=Ia (hx.low.below b.o) (hy.low.below b.o);have u:=A.o.lt
 have x:=z.o.lt;obtain⟨g,h,k,l,m,n⟩:=Ie (A.o.cell 0) (A.o.cell 1) (A.o.cell 2) (z.o.cell 0) (z.o.cell 1) (z.o.cell 2);simp at g h k l m n;have ao:=Hi aa;have av:w.heap.size+1+1≠w.heap.size:=by omega
 have aw:w.heap.size+1+1≠w.heap.size+1:=by omega
 clear hx hy hp hq aa;have y:=Hi (show 0<Nat.gcd p.den q.den from Nat.gcd_pos_of_pos_right _ q.den_pos);go_enter func64,ntmps64;obtain⟨B,C,D⟩:=Jb a.o.base u g.o h.o k.o;obtain⟨E,F,G⟩:=Jb a.o.base x l.o m.o n.o;go_wp2_with fail;rw[show (((w.alloc (.cells #[.bool M,.slice P S T,.slice bx U V] 107)).alloc (.cells #[.bool N,.slice Q W X,.slice R Y Z] 107)).alloc (.cells #[.bool false,.slice none 0 0,.slice none 0 0] 107))=f from ao.o];go_region_held3
  (fun w'=>w'.cell? ⟨w.heap.size,0,none⟩=some (.bool M)/\w'.cell? ⟨w.heap.size,1,none⟩=some (.slice P S T)/\w'.cell? ⟨w.heap.size,2,none⟩=some (.slice bx U V)/\w'.cell? ⟨w.heap.size+1,0,none⟩=some (.bool N)/\w'.cell? ⟨w.heap.size+1,1,none⟩=some (.slice Q W X)/\w'.cell? ⟨w.heap.size+1,2,none⟩=some (.slice R Y Z)) ((first|(simp [*];done)|go_keep))
  (first
  |
   (go_at_call_of 124 (Value.agg #[.bool M,.slice P S T,.slice bx U V])
    apply cM;apply NBag.under (w0:=f) (hl:=al.o) (hk:=ah.o.2);(focus(first|exact a.o|exact a.o.drew|exact a.o.drew.drew));rintro e w3 ⟨aA,nA,cA,rfl,c⟩;clear a;have a:=Hi c;clear c;obtain⟨B,C,D⟩:=Jb a.o.base u g.o h.o k.o;obtain⟨E,F,G⟩:=Jb a.o.base x l.o m.o n.o
    skip)
  |
   (go_at_call_of 124 (Value.agg #[.bool N,.slice Q W X,.slice R Y Z])
    apply cM;apply NBag.under (w0:=f) (hl:=am.o) (hk:=ai.o.2);(focus(first|exact a.o|exact a.o.drew|exact a.o.drew.drew));rintro e w4 ⟨aB,nB,cB,rfl,c⟩;clear a;have a:=Hi c;clear c;obtain⟨B,C,D⟩:=Jb a.o.base u g.o h.o k.o;obtain⟨E,F,G⟩:=Jb a.o.base x l.o m.o n.o
    skip)
  )
 go_wp2_with
  ((skip
    first
     |(
      go_at_call 125;apply cM
      apply NBag.gcd (w0:=f))
     |(
      go_at_call 126;apply cM
      apply NBag.quot (w0:=f))
     |(
      go_at_call 128;apply cM
      apply NBag.mul (w0:=f))
     |(
      go_at_call 127;apply cM
      apply NBag.addSigned (w0:=f))
    (focus(first|exact a.o|exact a.o.drew|exact a.o.drew.drew));(repeat(first|exact mH|apply mT));omega
    try (focus(exact y.o))
    first
     |rintro e wn ⟨an,nn,cn,rfl,c⟩
     |(
      rintro e wn ⟨r,aT,nT,cT,t,rfl,c,K⟩;have HT:=Hi K
      clear K)
    clear a;have a:=Hi c;clear c;obtain⟨B,C,D⟩:=Jb a.o.base u g.o h.o k.o;obtain⟨E,F,G⟩:=Jb a.o.base x l.o m.o n.o
    skip))
 go_region_held3
  (fun w'=>w'.cell? ⟨w.heap.size,0,none⟩=some (.bool M)/\w'.cell? ⟨w.heap.size,1,none⟩=some (.slice P S T)/\w'.cell? ⟨w.heap.size,2,none⟩=some (.slice bx U V)/\w'.cell? ⟨w.heap.size+1,0,none⟩=some (.bool N)/\w'.cell? ⟨w.heap.size+1,1,none⟩=some (.slice Q W X)/\w'.cell? ⟨w.heap.size+1,2,none⟩=some (.slice R Y Z)) ((first|(simp [*];done)|go_keep))
  ((skip
    first
     |(
      go_at_call 125;apply cM
      apply NBag.gcd (w0:=f))
     |(
      go_at_call 126;apply cM
      apply NBag.quot (w0:=f))
     |(
      go_at_call 128;apply cM
      apply NBag.mul (w0:=f))
     |(
      go_at_call 127;apply cM
      apply NBag.addSigned (w0:=f))
    (focus(first|exact a.o|exact a.o.drew|exact a.o.drew.drew));(repeat(first|exact mH|apply mT));omega
    try (focus(exact y.o))
    first
     |rintro e wn ⟨an,nn,cn,rfl,c⟩
     |(
      rintro e wn ⟨r,aT,nT,cT,t,rfl,c,K⟩;have HT:=Hi K
      clear K)
    clear a;have a:=Hi c;clear c;obtain⟨B,C,D⟩:=Jb a.o.base u g.o h.o k.o;obtain⟨E,F,G⟩:=Jb a.o.base x l.o m.o n.o
    skip))
 have hE:=Qo8 HX.o.neg HY.o.neg HT.o;have ab:0<Nat.gcd t (Nat.gcd p.den q.den):=Nat.gcd_pos_of_pos_right _ y.o;have HZ:=Hi (a.o.get (List.Mem.head _)).1.zero_iff;obtain⟨ap,HE,af,aq⟩:=Ic ab hE.1 hE.2 (show 0<p.den / Nat.gcd p.den q.den*(q.den / Nat.gcd t (Nat.gcd p.den q.den)) from Nat.mul_pos (Nat.div_pos (Nat.gcd_le_left _ p.den_pos) y.o) (Nat.div_pos (Nat.le_trans (Nat.gcd_le_right _ y.o) (Nat.gcd_le_right _ q.den_pos)) ab));clear hE ab;by_cases I:t=0
 .
  have ar:((nT:Int) == 0)=true:=by have:=HZ.o.1 I;simp[this]
  have ad:O (p+q=0):=Hi (by rw[<-HE.o,I,Nat.zero_div,Qih,Rat.zero_mkRat]);clear HE af I;have d:=H.o.below a.o.base H.o.lt;have k0:=d.cell 0;have k1:=d.cell 1;have k2:=d.cell 2;have f0:=d.free 0;have f1:=d.free 1;have f2:=d.free 2;simp[zeroFrac] at k0 k1 k2;obtain⟨J,ae⟩:=Ia d (b.o.trans (a.o.base.mono b.o.size));clear d a;go_wp2;refine bodyPost_ret (v:=.agg #[.bool false,.slice none 0 0,.slice none 0 0]) (results_cell_row rfl _ _ (w.heap.size+1+1) 107 #[.bool false,.slice none 0 0,.slice none 0 0] (0,0) _ rfl (((J.o.set 0 _).set 1 _).set 2 _) underlying107 rfl Tryz.fracInfo) rfl ?_;have ho:=(((Only.refl (w.heap.size+1+1) wn).setCell 0 (.bool false)).setCell 1 (.slice none 0 0)).setCell 2 (.slice none 0 0);exact⟨⟨_,rfl,by first|exact FracV.zero _|(rw [ad.o];exact FracV.zero _)⟩,Only.fresh ae.o ho (by omega)⟩
 .
  have ar:((nT:Int) == 0)=false:=by rw[beq_eq_false_iff_ne];have:=HZ.o.2;omega
  clear I;go_wp2_with
   ((skip
     first
      |(
       go_at_call 125;apply cM
       apply NBag.gcd (w0:=f))
      |(
       go_at_call 126;apply cM
       apply NBag.quot (w0:=f))
      |(
       go_at_call 128;apply cM
       apply NBag.mul (w0:=f))
      |(
       go_at_call 127;apply cM
       apply NBag.addSigned (w0:=f))
     (focus(first|exact a.o|exact a.o.drew|exact a.o.drew.drew));(repeat(first|exact mH|apply mT));omega
     try (focus(first|exact y.o|exact ap.o))
     first
      |rintro e wn ⟨an,nn,cn,rfl,c⟩
      |(
       rintro e wn ⟨r,aT,nT,cT,t,rfl,c,K⟩;have HT:=Hi K
       clear K)
     clear a;have a:=Hi c;clear c;obtain⟨B,C,D⟩:=Jb a.o.base u g.o h.o k.o;obtain⟨E,F,G⟩:=Jb a.o.base x l.o m.o n.o
     skip))
  have ag:=Hi (H.o.below a.o.base H.o.lt);have L:=Hi (b.o.trans (a.o.base.mono b.o.size));clear H b;have H:=ag;have b:=L;clear ag L;apply cM;apply NBag.built (w0:=f) a.o;(repeat(first|exact mH|apply mT));(focus(exact aq.o));(focus(exact af.o));rw[HE.o];rintro e w9 ⟨⟨v9,rfl,hv⟩,c⟩;obtain⟨s,a9,n9,c9,b9,m9,d9,rfl,hv⟩:=hv;have d:=H.o.below c H.o.lt;have k0:=d.cell 0;have k1:=d.cell 1;have k2:=d.cell 2;have f0:=d.free 0;have f1:=d.free 1;have f2:=d.free 2;simp[zeroFrac] at k0 k1 k2;obtain⟨HV,J,ae⟩:=Ib hv d (b.o.trans (c.mono b.o.size));clear hv d c;go_wp2
  refine bodyPost_ret (v:=.agg #[.bool s,.slice a9 n9 c9,.slice b9 m9 d9]) (results_cell_row rfl _ _ (w.heap.size+1+1) 107 #[.bool s,.slice a9 n9 c9,.slice b9 m9 d9] (0,0) _ rfl (((J.o.set 0 _).set 1 _).set 2 _) underlying107 rfl Tryz.fracInfo) rfl ?_;have ho:=(((Only.refl (w.heap.size+1+1) w9).setCell 0 (.bool s)).setCell 1 (.slice a9 n9 c9)).setCell 2 (.slice b9 m9 d9);exact⟨⟨_,rfl,s,a9,n9,c9,b9,m9,d9,rfl,HV.o.only ho J.o Qbl⟩,Only.fresh ae.o ho (by omega)⟩
theorem Qo9{d e:Value}{i j:Nat}{p q:Rat}{w:Vz}(a:FracV w d p)(b:FracV w e q)(f:Fits p i)(g:Fits q j)(c:i+j<68719476000):Calls prog 64 #[d,e] w (FNew w (p+q)):=by
 obtain⟨h,k,l,m,bx,n,o,rfl,a⟩:=a;obtain⟨r,s,t,u,v,x,y,rfl,b⟩:=b;exact Qik h r k bx s v l m n o t u x y i j p q w a b f g c
theorem Qd4{d e:Value}{i j:Nat}{p q:Rat}{w:Vz}(a:FracV w d p)(b:FracV w e q)(f:Fits p i)(g:Fits q j)(c:i+j<68719476000):Calls prog 65 #[d,e] w (FNew w (p*q)):=by
 obtain⟨h,k,l,m,bx,n,o,rfl,a⟩:=a;obtain⟨r,s,t,u,v,x,y,rfl,b⟩:=b;exact Qig h r k bx s v l m n o t u x y i j p q w a b f g c
theorem Qpa(G H:Bool)(I bx J K:Vx)(L M N P Q R S T i j:Nat)(p q:Rat)(w:Vz)(hx:FracAt w G I L M bx N P p)(hy:FracAt w H J Q R K S T q)(hp:Fits p i)(hq:Fits q j)(am:i+j<68719476000):
 Calls prog 57 #[.agg #[.bool G,.slice I L M,.slice bx N P],.agg #[.bool H,.slice J Q R,.slice K S T]] w (FNew w (p - q)):=by
 rw[Rat.sub_eq_add_neg];obtain⟨HX,HY,ab,ad⟩:=Ic hx hy hp hq;obtain⟨E,ae⟩:=nm (#[Value.bool G,.slice I L M,.slice bx N P]);obtain⟨F,af⟩:=nm (#[Value.bool H,.slice J Q R,.slice K S T]);obtain⟨HR,HS,f,g,b⟩:=Id ((((((NBag.start hx.top hy.top hp.1 hq.1).alloc (.cells E 107)).alloc (.cells F 107)).alloc (.cells zeroFrac 107)).rebase)) (SB.new3 w 107 107 107 E F zeroFrac) ((SB.new2 w 107 107 E F).alloc (.cells zeroFrac 107)) (((SB.new w 107 E).alloc (.cells F 107)).alloc (.cells zeroFrac 107)) (Below.new3 w (.cells E 107) (.cells F 107) (.cells zeroFrac 107));obtain⟨h,y⟩:=nm ((((w.alloc (.cells E 107)).alloc (.cells F 107)).alloc (.cells zeroFrac 107)));rw[y] at HR HS f g b;subst ae af;obtain⟨an,ao⟩:=Ia (hx.low.below b.o) (hy.low.below b.o)
 have z:=g.o.lt;have A:=f.o.lt;obtain⟨k,l,m,n,r,s⟩:=Ie (g.o.cell 0) (g.o.cell 1) (g.o.cell 2) (f.o.cell 0) (f.o.cell 1) (f.o.cell 2);simp at k l m n r s;have ag:=Hi y;have ap:w.heap.size+1+1≠w.heap.size:=by omega
 have aq:w.heap.size+1+1≠w.heap.size+1:=by omega
 clear hx hy hp hq y;go_enter func57,ntmps57;obtain⟨U,V,W⟩:=Jb HR.o.base z k.o l.o m.o;obtain⟨X,Y,Z⟩:=Jb HR.o.base A n.o r.o s.o;go_wp2_with fail;rw[show (((w.alloc (.cells #[.bool G,.slice I L M,.slice bx N P] 107)).alloc (.cells #[.bool H,.slice J Q R,.slice K S T] 107)).alloc (.cells #[.bool false,.slice none 0 0,.slice none 0 0] 107))=h from ag.o];have ah:=ab;obtain⟨ai,aj,B⟩:=Ib ad.o.neg (HX.o.below b.o) (HY.o.below b.o);go_region_held3
  (fun w'=>w'.cell? ⟨w.heap.size,0,none⟩=some (.bool G)/\w'.cell? ⟨w.heap.size,1,none⟩=some (.slice I L M)/\w'.cell? ⟨w.heap.size,2,none⟩=some (.slice bx N P)/\w'.cell? ⟨w.heap.size+1,0,none⟩=some (.bool H)/\w'.cell? ⟨w.heap.size+1,1,none⟩=some (.slice J Q R)/\w'.cell? ⟨w.heap.size+1,2,none⟩=some (.slice K S T)) ((first|(simp [*];done)|go_keep))
  (first
  |(
   go_at_call 117;apply cM;apply Qif;(focus(first|exact B.o|exact B.o.drew|exact B.o.drew.drew));rintro e w4 ⟨⟨v4,rfl,t⟩,u⟩;obtain⟨al,a4,n4,c4,b4,m4,d4,rfl,t⟩:=t;have C:=Hi t
   first
    |have a:O (Bl h w4):=Hi u
    |have a:O (Bl h w4):=Hi ((Below.refl _ h).drew.trans u)
    |have a:O (Bl h w4):=Hi ((Below.refl _ h).drew.drew.trans u)
   have D:=Hi (aj.o.below a.o);clear t u HR;obtain⟨U,V,W⟩:=Jb a.o z k.o l.o m.o;obtain⟨X,Y,Z⟩:=Jb a.o A n.o r.o s.o
   skip)
  |
   (go_at_call 64
    apply cM;apply Qik (i:=i) (j:=j);(focus(first|exact D.o|exact D.o.drew|exact D.o.drew.drew));(focus(first|exact C.o|exact C.o.drew|exact C.o.drew.drew));(focus(exact ah.o));(focus(exact ai.o));omega;rintro e w9 ⟨⟨v9,rfl,t⟩,u⟩;obtain⟨d,a9,n9,c9,b9,m9,d9,rfl,t⟩:=t
    first
     |have c:=a.o.trans (u.mono a.o.size)
     |have c:=a.o.drew.trans (u.mono a.o.size)
     |have c:=a.o.drew.drew.trans (u.mono a.o.size)
    have x:=HS.o.below c HS.o.lt;have k0:=x.cell 0;have k1:=x.cell 1;have k2:=x.cell 2;have f0:=x.free 0;have f1:=x.free 1;have f2:=x.free 2;obtain⟨U,V,W⟩:=Jb c z k.o l.o m.o;obtain⟨X,Y,Z⟩:=Jb c A n.o r.o s.o;simp[zeroFrac] at k0 k1 k2;obtain⟨HV,aa,ak⟩:=Ib t x (b.o.trans (c.mono b.o.size))
    clear t x u c)
  )
 all_goals
  go_wp2;refine bodyPost_ret (v:=.agg #[.bool d,.slice a9 n9 c9,.slice b9 m9 d9]) (results_cell_row rfl _ _ (w.heap.size+1+1) 107 #[.bool d,.slice a9 n9 c9,.slice b9 m9 d9] (0,0) _ rfl (((aa.o.set 0 _).set 1 _).set 2 _) underlying107 rfl Tryz.fracInfo) rfl ?_;have ho:=(((Only.refl (w.heap.size+1+1) w9).setCell 0 (.bool d)).setCell 1 (.slice a9 n9 c9)).setCell 2 (.slice b9 m9 d9);exact⟨⟨_,rfl,d,a9,n9,c9,b9,m9,d9,rfl,HV.o.only ho aa.o Qbl⟩,Only.fresh ak.o ho (by omega)⟩
theorem Qpb(q:Rat)(b:q≠0){a:Bool}(c:a=decide (q.num<0)):mkRat (sgn a q.den) q.num.natAbs=q⁻¹:=by rw[c];exact(Qij b).1
theorem Fits.inv{q:Rat}{j:Nat}(h:Fits q j)(c:q≠0):Fits q⁻¹ j:=by
 obtain⟨d,e,f⟩:=Qij c;obtain⟨a,b⟩:=Qii (neg:=decide (q.num<0)) f e;rw[d] at a b;exact⟨by rw[a,Qeb];exact h.2,by rw[b];exact h.1⟩
theorem Qpc(X L:Bool)(Y bx M N:Vx)(Z cx mx dx P Q R S i j:Nat)(p q:Rat)(w:Vz)(hx:FracAt w X Y Z cx bx mx dx p)(hy:FracAt w L M P Q N R S q)(hp:Fits p i)(hq:Fits q j)(ao:i+j<68719476000):
 Calls prog 66 #[.agg #[.bool X,.slice Y Z cx,.slice bx mx dx],.agg #[.bool L,.slice M P Q,.slice N R S]] w (FNew w (p / q)):=by
 obtain⟨HX,HY,ad,aa⟩:=Ic hx hy hp hq;obtain⟨CX,ae⟩:=nm (#[Value.bool X,.slice Y Z cx,.slice bx mx dx]);obtain⟨CY,af⟩:=nm (#[Value.bool L,.slice M P Q,.slice N R S]);obtain⟨a,HS,y,z,d⟩:=Id ((((((NBag.start hx.top hy.top hp.1 hq.1).alloc (.cells CX 107)).alloc (.cells CY 107)).alloc (.cells zeroFrac 107)).rebase)) (SB.new3 w 107 107 107 CX CY zeroFrac) ((SB.new2 w 107 107 CX CY).alloc (.cells zeroFrac 107)) (((SB.new w 107 CX).alloc (.cells CY 107)).alloc (.cells zeroFrac 107)) (Below.new3 w (.cells CX 107) (.cells CY 107) (.cells zeroFrac 107));obtain⟨H,T⟩:=nm ((((w.alloc (.cells CX 107)).alloc (.cells CY 107)).alloc (.cells zeroFrac 107)));rw[T] at a HS y z d;subst ae af;obtain⟨ap,ag⟩:=Ia (hx.low.below d.o) (hy.low.below d.o);have u:=z.o.lt
 have x:=y.o.lt;obtain⟨g,k,l,m,n,r⟩:=Ie (z.o.cell 0) (z.o.cell 1) (z.o.cell 2) (y.o.cell 0) (y.o.cell 1) (y.o.cell 2);simp at g k l m n r;have ab:=Hi T;have aq:w.heap.size+1+1≠w.heap.size:=by omega
 have ar:w.heap.size+1+1≠w.heap.size+1:=by omega
 clear hx hy hp hq T;by_cases I:q.num.natAbs=0
 .
  have A:q=0:=Rat.num_eq_zero.1 (by omega);rw[show p / q=0 by rw[A,Rat.div_def,Rat.inv_zero,Rat.mul_zero]];go_enter func66,ntmps66;obtain⟨B,C,D⟩:=Jb a.o.base u g.o k.o l.o;obtain⟨E,F,G⟩:=Jb a.o.base x m.o n.o r.o;go_wp2_with fail;rw[show (((w.alloc (.cells #[.bool X,.slice Y Z cx,.slice bx mx dx] 107)).alloc (.cells #[.bool L,.slice M P Q,.slice N R S] 107)).alloc (.cells #[.bool false,.slice none 0 0,.slice none 0 0] 107))=H from ab.o];apply cM;apply NBag.isZero (w0:=H) a.o
  (repeat(first|exact mH|apply mT));rw[(decide_eq_true I)];rintro e w2 ⟨rfl,c⟩;have f:=HS.o.below c.base HS.o.lt;have k0:=f.cell 0;have k1:=f.cell 1;have k2:=f.cell 2;have f0:=f.free 0;have f1:=f.free 1;have f2:=f.free 2;simp[zeroFrac] at k0 k1 k2;obtain⟨J,U⟩:=Ia f (d.o.trans (c.base.mono d.o.size));clear c f a;go_wp2;refine bodyPost_ret (v:=.agg #[.bool false,.slice none 0 0,.slice none 0 0]) (results_cell_row rfl _ _ (w.heap.size+1+1) 107 #[.bool false,.slice none 0 0,.slice none 0 0] (0,0) _ rfl (((J.o.set 0 _).set 1 _).set 2 _) underlying107 rfl Tryz.fracInfo) rfl ?_;have ho:=(((Only.refl (w.heap.size+1+1) w2).setCell 0 (.bool false)).setCell 1 (.slice none 0 0)).setCell 2 (.slice none 0 0);exact⟨⟨_,rfl,FracV.zero _⟩,Only.fresh U.o ho (by omega)⟩
 .
  have A:q≠0:=fun h=>I (by rw[h];rfl)
  go_enter func66,ntmps66;obtain⟨B,C,D⟩:=Jb a.o.base u g.o k.o l.o;obtain⟨E,F,G⟩:=Jb a.o.base x m.o n.o r.o;go_wp2_with fail;rw[show (((w.alloc (.cells #[.bool X,.slice Y Z cx,.slice bx mx dx] 107)).alloc (.cells #[.bool L,.slice M P Q,.slice N R S] 107)).alloc (.cells #[.bool false,.slice none 0 0,.slice none 0 0] 107))=H from ab.o];apply cM;apply NBag.isZero (w0:=H) a.o;(repeat(first|exact mH|apply mT));rw[(decide_eq_false I)];rintro e w2 ⟨rfl,c⟩;clear a
  have a:=Hi c;clear c;obtain⟨B,C,D⟩:=Jb a.o.base u g.o k.o l.o;obtain⟨E,F,G⟩:=Jb a.o.base x m.o n.o r.o;go_wp2_with fail;rw[Rat.div_def];obtain⟨ah,ai,aj⟩:=Ib (Qpb q A HY.o.neg) (Nat.Coprime.symm q.reduced) (show 0<q.num.natAbs by omega);have ak:=ad;obtain⟨al,am⟩:=Ia (aa.o.inv A) (HX.o.below d.o);clear A I;go_region_held3
   (fun w'=>w'.cell? ⟨w.heap.size,0,none⟩=some (.bool X)/\w'.cell? ⟨w.heap.size,1,none⟩=some (.slice Y Z cx)/\w'.cell? ⟨w.heap.size,2,none⟩=some (.slice bx mx dx)/\w'.cell? ⟨w.heap.size+1,0,none⟩=some (.bool L)/\w'.cell? ⟨w.heap.size+1,1,none⟩=some (.slice M P Q)/\w'.cell? ⟨w.heap.size+1,2,none⟩=some (.slice N R S)) ((first|(simp [*];done)|go_keep))
   (first
   |
    (go_at_call_of 124 (Value.agg #[.bool L,.slice M P Q,.slice N R S])
     apply cM;apply NBag.under (w0:=H) (hl:=ag.o) (hk:=aa.o.2);(focus(first|exact a.o|exact a.o.drew|exact a.o.drew.drew));rintro e w3 ⟨aB,nB,cB,rfl,c⟩;clear a;have a:=Hi c;clear c;obtain⟨B,C,D⟩:=Jb a.o.base u g.o k.o l.o;obtain⟨E,F,G⟩:=Jb a.o.base x m.o n.o r.o
     skip)
   |(
    go_at_call 121;apply cM;apply NBag.built (w0:=H);(focus(first|exact a.o|exact a.o.drew|exact a.o.drew.drew));(repeat(first|exact mH|apply mT));(focus(exact aj.o));(focus(exact ai.o));rw[ah.o];rintro e w4 ⟨⟨v4,rfl,K⟩,c⟩;obtain⟨an,a4,n4,c4,b4,m4,d4,rfl,K⟩:=K;have V:=Hi K
    first
     |have b:=Hi (a.o.base.trans (c.mono a.o.base.size))
     |have b:O (Bl H w4):=Hi (a.o.base.drew.trans (c.mono a.o.base.size))
     |have b:O (Bl H w4):=Hi (a.o.base.drew.drew.trans (c.mono a.o.base.size))
    have W:=Hi (am.o.below b.o);clear K c a;obtain⟨B,C,D⟩:=Jb b.o u g.o k.o l.o;obtain⟨E,F,G⟩:=Jb b.o x m.o n.o r.o
    skip)
   |
    (go_at_call 65
     apply cM;apply Qig (i:=i) (j:=j);(focus(first|exact W.o|exact W.o.drew|exact W.o.drew.drew));(focus(first|exact V.o|exact V.o.drew|exact V.o.drew.drew));(focus(exact ak.o));(focus(exact al.o));omega;rintro e w9 ⟨⟨v9,rfl,K⟩,c⟩;obtain⟨t,a9,n9,c9,b9,m9,d9,rfl,K⟩:=K
     first
      |have s:=b.o.trans (c.mono b.o.size)
      |have s:=b.o.drew.trans (c.mono b.o.size)
      |have s:=b.o.drew.drew.trans (c.mono b.o.size)
     have f:=HS.o.below s HS.o.lt;have k0:=f.cell 0;have k1:=f.cell 1;have k2:=f.cell 2;have f0:=f.free 0;have f1:=f.free 1;have f2:=f.free 2;obtain⟨B,C,D⟩:=Jb s u g.o k.o l.o;obtain⟨E,F,G⟩:=Jb s x m.o n.o r.o;simp[zeroFrac] at k0 k1 k2;obtain⟨HV,J,U⟩:=Ib K f (d.o.trans (s.mono d.o.size))
     clear K f c s)
   )
  all_goals
   go_wp2;refine bodyPost_ret (v:=.agg #[.bool t,.slice a9 n9 c9,.slice b9 m9 d9]) (results_cell_row rfl _ _ (w.heap.size+1+1) 107 #[.bool t,.slice a9 n9 c9,.slice b9 m9 d9] (0,0) _ rfl (((J.o.set 0 _).set 1 _).set 2 _) underlying107 rfl Tryz.fracInfo) rfl ?_;have ho:=(((Only.refl (w.heap.size+1+1) w9).setCell 0 (.bool t)).setCell 1 (.slice a9 n9 c9)).setCell 2 (.slice b9 m9 d9);exact⟨⟨_,rfl,t,a9,n9,c9,b9,m9,d9,rfl,HV.o.only ho J.o Qbl⟩,Only.fresh U.o ho (by omega)⟩
theorem Qa9{d e:Value}{i j:Nat}{p q:Rat}{w:Vz}(a:FracV w d p)(b:FracV w e q)(f:Fits p i)(g:Fits q j)(c:i+j<68719476000):Calls prog 57 #[d,e] w (FNew w (p - q)):=by
 obtain⟨h,k,l,m,bx,n,o,rfl,a⟩:=a;obtain⟨r,s,t,u,v,x,y,rfl,b⟩:=b;exact Qpa h r k bx s v l m n o t u x y i j p q w a b f g c
theorem Qch{d e:Value}{i j:Nat}{p q:Rat}{w:Vz}(a:FracV w d p)(b:FracV w e q)(f:Fits p i)(g:Fits q j)(c:i+j<68719476000):Calls prog 66 #[d,e] w (FNew w (p / q)):=by
 obtain⟨h,k,l,m,bx,n,o,rfl,a⟩:=a;obtain⟨r,s,t,u,v,x,y,rfl,b⟩:=b;exact Qpc h r k bx s v l m n o t u x y i j p q w a b f g c
theorem Qci{b:Value}{p:Rat}{w:Vz}(a:FracV w b p):Calls prog 117 #[b] w (FNew w (-p)):=by
 obtain⟨c,d,e,f,bx,g,h,rfl,a⟩:=a;exact Qif c d bx e f g h p w a
theorem Qbz{b:Value}{p:Rat}{w:Vz}(a:FracV w b p):Calls prog 129 #[b] w fun e w'=>e=.returned (.bool (decide (p=0)))/\Below w.heap.size w w':=by
 obtain⟨c,d,f,g,bx,i,j,rfl,a⟩:=a;have e:decide (p.num.natAbs=0)=decide (p=0):=by
  by_cases h:p=0
  . subst h;rfl
  . have:p.num≠0:=fun k=>h (Rat.num_eq_zero.1 k)
    rw[decide_eq_false h,decide_eq_false (by omega)]
 rw[<-e];exact Qie c d bx f g i j _ w a.top
theorem Qtz(s:Vs)(w:Vz):
 Calls prog 118 #[.string s,.string ⟨#[45]⟩] w fun e w'=>e=.returned (.tuple #[.string ⟨(Lib.trimPrefix s.data.toList [45]).toArray⟩,.bool (Lib.hasPrefix s.data.toList [45])])/\w'=w:=Any.strings_CutPrefix Tryz.lays103 s ⟨#[45]⟩ w
theorem Qt0(s:Vs)(m:Int)(w:Vz)(a:s.size<4294967281)(b:w.cell? ⟨4,0,none⟩=some (.int .i64 m)):
 Calls prog 119 #[.string s,.string ⟨#[47]⟩] w fun e w'=>e=.returned (.tuple #[.string ⟨(Lib.cut s.data.toList [47]).1.toArray⟩,.string ⟨(Lib.cut s.data.toList [47]).2.1.toArray⟩,.bool (Lib.cut s.data.toList [47]).2.2])/\∃n,w'=w.drewN n:=Any.strings_Cut Tryz.lays145 s ⟨#[47]⟩ m w a b
theorem Nat64.numV{w w':Vz}{x:Nat}{e:Ending}(h:Nat64 w x e w'):(∃a n c,e=.returned (.slice a n c)/\NumV w' a n c x)/\Below w.heap.size w w':=by
 obtain⟨⟨a,c,l,rfl,b⟩,d⟩:=h;exact⟨⟨a,l.length,c,rfl,l,rfl,b⟩,d⟩
theorem Qt1(neg:Bool)(t k:Nat):mkRat (sgn neg t) k=if neg=true then -(mkRat (t:Int) k) else mkRat (t:Int) k:=by
 cases neg
 . simp[sgn]
 . simp only[sgn,if_true]
   rw[Rat.neg_mkRat]
theorem Qgr{s t:Vu}(a:Lib.trimPrefix s [45]=t)(h:¬QForm t):QOf s 0:=by
 refine⟨0,by rw[a];exact .inr ⟨h,rfl⟩,?_⟩
 split<;>simp
theorem Qen{s t c1 c2:Vu}{bar neg:Bool}(g:Lib.trimPrefix s [45]=t)(i:Lib.hasPrefix s [45]=neg)(h:(Lib.cut t [47]).1=c1)(b:(Lib.cut t [47]).2.1=c2)(c:(Lib.cut t [47]).2.2=bar)(d:IsDig c1)(e:bar=true->IsDig c2):
 QOf s (mkRat (sgn neg (decVal c1)) (if bar=true then decVal c2 else 1)):=by
 by_cases a:bar=true/\decVal c2=0
 .
  rw[if_pos a.1,a.2,Rat.mkRat_zero];apply Qgr g;intro j;exact(j.2 (by rw[c];exact a.1)).2 (by rw[b];exact a.2)
 .
  refine⟨mkRat (decVal c1:Nat) (if bar=true then decVal c2 else 1),?_,by rw[i];exact Qt1 _ _ _⟩;rw[g];refine .inl ⟨⟨by rw[h];exact d,fun f=>?_⟩,by rw[h,b,c]⟩;rw[c] at f;rw[b];exact⟨e f,fun k=>a ⟨f,k⟩⟩
def OfAns(s:Vu)(w:Vz)(e:Ending)(w':Vz):Prop:=∃q,QOf s q/\FNew w q e w'
theorem Qk3(s:Vs)(m:Int)(w:Vz)(hm:w.cell? ⟨4,0,none⟩=some (.int .i64 m))(k:s.size<=1073741824):
 Calls prog 63 #[.string s] w (OfAns s.data.toList w):=by
 obtain⟨t,ht⟩:=nm ((⟨(Lib.trimPrefix s.data.toList [45]).toArray⟩:ByteArray));obtain⟨neg,q⟩:=nm (Lib.hasPrefix s.data.toList [45]);have H:Lib.trimPrefix s.data.toList [45]=t.data.toList:=by rw[<-ht]
 have az:t.size<=1073741824:=by
  have:=Qeq s.data.toList [45];rw[H,Qah,Qah] at this;omega
 obtain⟨c1,I⟩:∃c,(⟨(Lib.cut t.data.toList [47]).1.toArray⟩:ByteArray)=c:=⟨_,rfl⟩;obtain⟨c2,J⟩:∃c,(⟨(Lib.cut t.data.toList [47]).2.1.toArray⟩:ByteArray)=c:=⟨_,rfl⟩;obtain⟨bar,r⟩:∃b,(Lib.cut t.data.toList [47]).2.2=b:=⟨_,rfl⟩;have L:(Lib.cut t.data.toList [47]).1=c1.data.toList:=by rw[<-I]
 have M:(Lib.cut t.data.toList [47]).2.1=c2.data.toList:=by rw[<-J]
 have N:c1.size<=1073741824:=by have:=Qla t.data.toList;rw[L,Qah,Qah] at this;omega
 have P:c2.size<=1073741824:=by have:=Qlb t.data.toList;rw[M,Qah,Qah] at this;omega
 have d:=Hi ((Below.refl w.heap.size w).alloc lZ (.cells zeroFrac 107));obtain⟨HM,f⟩:=Ia (ce d.o (World.block_lt_of_cell? _ _ hm) hm) (SB.new w 107 zeroFrac);obtain⟨wA,Q⟩:=nm (w.alloc (.cells zeroFrac 107));rw[Q] at d HM f;obtain⟨R,S⟩:=Ia (Qtz s wA) (Qt0 t m wA (by omega) HM.o);rw[ht,q] at R;rw[I,J,r] at S;obtain⟨am,y,af,T,U,V,an,ao,ag⟩:=Ih Q H q L M r (fun w=>Qk4 c1 w N) (fun w=>Qk4 c2 w P) (fun w h=>Qk2 c1 w N h);have ap:=Hi (fun w h=>Qk2 c2 w P h);clear ht q H I J r L M hm Q;go_enter func63,ntmps63;go_wp2_with fail;rw[show w.alloc (.cells #[.bool false,.slice none 0 0,.slice none 0 0] 107)=wA from am.o];go_fit R.o;rintro e w1 ⟨rfl,hw⟩;subst hw;clear R
 go_wp2_with fail;go_fit S.o;rintro e w1 ⟨rfl,nD,hw⟩;subst hw;clear S;have z:Bl w1 (w1.drewN nD):=Qgp bR nD;obtain⟨wD,W⟩:=nm (w1.drewN nD);rw[W] at z;obtain⟨ah,ai,aq⟩:=Ib (d.o.trans (z.mono d.o.size)) (f.o.below z f.o.lt) W;clear z W d f HM;have d:=ah;have f:=ai;clear ah ai;go_wp2_with fail;rw[aq.o];go_fit (an.o _);rintro e w2 ⟨⟨v1,rfl,aj⟩,ar⟩;subst ar;have X:=Hi aj;clear aj;cases v1 with
 |false=>
  have Y:=Hi (Qgr y.o (fun h=>by have:=X.o.2 (by rw[<-T.o];exact h.1);cases this));have Z:=f.o.cell 0;have k1:=f.o.cell 1;have k2:=f.o.cell 2;have f0:=f.o.free 0;have f1:=f.o.free 1;have f2:=f.o.free 2;simp[zeroFrac] at Z k1 k2;go_wp2;refine bodyPost_ret (v:=.agg #[.bool false,.slice none 0 0,.slice none 0 0]) (results_cell_row rfl _ _ (w.heap.size) 107 #[.bool false,.slice none 0 0,.slice none 0 0] (0,0) _ rfl (((f.o.set 0 _).set 1 _).set 2 _) underlying107 rfl Tryz.fracInfo) rfl ?_;exact⟨0,Y.o,⟨_,rfl,FracV.zero _⟩,((d.o.setCell lZ _).setCell lZ _).setCell lZ _⟩
 |true=>
  have u:=Hi (X.o.1 rfl);clear X;cases bar with
  |false=>
   have Y:=Hi (Qen y.o af.o T.o U.o V.o u.o (fun h=>by cases h));go_wp2_with fail;go_fit (ag.o _ u.o.2);rintro e w3 G;obtain⟨⟨a,n,c,rfl,l⟩,j⟩:=G.numV;have A:=Hi l;have p:=Hi (f.o.below j f.o.lt);have i:=Hi (d.o.trans (j.mono d.o.size));clear f d l j G;have f:=p;have d:=i;clear p i;go_wp2_with fail;go_fit (Qd3 neg a none n c 0 0 (decVal c1.data.toList) 1 _ A.o (.inl ⟨rfl,rfl,rfl,rfl⟩) (Nat.coprime_one_right _));rintro e w9 ⟨⟨v9,rfl,l⟩,j⟩;obtain⟨g,B,C,D,E,F,d9,rfl,l⟩:=l;have k:=f.o.below j f.o.lt;have Z:=k.cell 0;have k1:=k.cell 1;have k2:=k.cell 2;have f0:=k.free 0;have f1:=k.free 1;have f2:=k.free 2;simp[zeroFrac] at Z k1 k2;obtain⟨HV,x,aa⟩:=Ib l k (d.o.trans (j.mono d.o.size));clear l k j;go_wp2
   refine bodyPost_ret (v:=.agg #[.bool g,.slice B C D,.slice E F d9]) (results_cell_row rfl _ _ (w.heap.size) 107 #[.bool g,.slice B C D,.slice E F d9] (0,0) _ rfl (((x.o.set 0 _).set 1 _).set 2 _) underlying107 rfl Tryz.fracInfo) rfl ?_;have ho:=(((Only.refl (w.heap.size) w9).setCell 0 (.bool g)).setCell 1 (.slice B C D)).setCell 2 (.slice E F d9);exact⟨_,Y.o,⟨_,rfl,g,B,C,D,E,F,d9,rfl,HV.o.only ho x.o Qbl⟩,Only.fresh aa.o ho (by omega)⟩
  |true=>
   go_wp2_with fail;go_fit (ao.o _);rintro e w3 ⟨⟨v2,rfl,hv2⟩,au⟩;subst au;have ab:=Hi hv2;clear hv2;cases v2 with
   |false=>
    have Y:=Hi (Qgr y.o (fun h=>by have:=ab.o.2 (by rw[<-U.o];exact(h.2 V.o).1);cases this));have Z:=f.o.cell 0;have k1:=f.o.cell 1;have k2:=f.o.cell 2;have f0:=f.o.free 0;have f1:=f.o.free 1;have f2:=f.o.free 2;simp[zeroFrac] at Z k1 k2;go_wp2;refine bodyPost_ret (v:=.agg #[.bool false,.slice none 0 0,.slice none 0 0]) (results_cell_row rfl _ _ (w.heap.size) 107 #[.bool false,.slice none 0 0,.slice none 0 0] (0,0) _ rfl (((f.o.set 0 _).set 1 _).set 2 _) underlying107 rfl Tryz.fracInfo) rfl ?_;exact⟨0,Y.o,⟨_,rfl,FracV.zero _⟩,((d.o.setCell lZ _).setCell lZ _).setCell lZ _⟩
   |true=>
    have ad:=Hi (ab.o.1 rfl);clear ab;obtain⟨K0,ae⟩:=nm 1073741824;obtain⟨K,hK⟩:=nm (4*K0);have av:O (decVal c1.data.toList<2 ^ K):=Hi (by rw[<-hK];exact Qep u.o.2 (by rw[Qah,<-ae];exact N));have aw:O (decVal c2.data.toList<2 ^ K):=Hi (by rw[<-hK];exact Qep ad.o.2 (by rw[Qah,<-ae];exact P));have ax:O (K+K<137438953000):=Hi (by omega);clear hK ae;have Y:=Hi (Qen y.o af.o T.o U.o V.o u.o (fun _=>ad.o));go_wp2_with fail;go_fit (ag.o _ u.o.2);rintro e w3 G;obtain⟨⟨a,n,c,rfl,l⟩,j⟩:=G.numV;have A:=Hi l;have p:=Hi (f.o.below j f.o.lt);have i:=Hi (d.o.trans (j.mono d.o.size));clear f d l j G;have f:=p;have d:=i;clear p i;go_wp2_with fail;go_fit (ap.o _ ad.o.2);rintro e w4 G;obtain⟨⟨a2,n2,ay,rfl,l⟩,j⟩:=G.numV;obtain⟨ak,al⟩:=Ia l (A.o.below j)
    have p:=Hi (f.o.below j f.o.lt);have i:=Hi (d.o.trans (j.mono d.o.size));clear f d l j G A;have f:=p;have d:=i;clear p i;go_wp2_with fail;go_fit (Qo3 neg a a2 n c n2 ay (decVal c1.data.toList) (decVal c2.data.toList) K K _ al.o ak.o av.o aw.o ax.o);rintro e w9 ⟨⟨v9,rfl,l⟩,j⟩;obtain⟨g,B,C,D,E,F,d9,rfl,l⟩:=l;have k:=f.o.below j f.o.lt;have Z:=k.cell 0;have k1:=k.cell 1;have k2:=k.cell 2;have f0:=k.free 0;have f1:=k.free 1;have f2:=k.free 2;simp[zeroFrac] at Z k1 k2;obtain⟨HV,x,aa⟩:=Ib l k (d.o.trans (j.mono d.o.size));clear l k j;go_wp2
    refine bodyPost_ret (v:=.agg #[.bool g,.slice B C D,.slice E F d9]) (results_cell_row rfl _ _ (w.heap.size) 107 #[.bool g,.slice B C D,.slice E F d9] (0,0) _ rfl (((x.o.set 0 _).set 1 _).set 2 _) underlying107 rfl Tryz.fracInfo) rfl ?_;have ho:=(((Only.refl (w.heap.size) w9).setCell 0 (.bool g)).setCell 1 (.slice B C D)).setCell 2 (.slice E F d9);exact⟨_,Y.o,⟨_,rfl,g,B,C,D,E,F,d9,rfl,HV.o.only ho x.o Qbl⟩,Only.fresh aa.o ho (by omega)⟩
end Go.Proofs.YtkkadnoecklepaaGreatDoor
namespace Go.Proofs
open Go.Shelf
def Tryz.lays169_ren:Go.Shelf.Ren:=⟨fun|169=>190|n=>n,fun|70=>225|9=>9|0=>0|72=>228|37=>226|127=>266|3=>3|5=>5|n=>n,fun|n=>n⟩
theorem Tryz.lays169:Go.Proofs.Lays.n169 Tryz.prog Tryz.lays169_ren:={
 mixed:=by kernel_rfl
 f169:=Tryz.func190.trans (congrArg some (by kernel_rfl))
 t0:=Tryz.underlying0
 a0:=Tryz.isAgg0
 z0:=Tryz.sizeOf0
 v0:=Tryz.zeroValue0
 t3:=Tryz.underlying3
 a3:=Tryz.isAgg3
 z3:=Tryz.sizeOf3
 v3:=Tryz.zeroValue3
 t9:=Tryz.underlying9
 a9:=Tryz.isAgg9
 z9:=Tryz.sizeOf9
 v9:=Tryz.zeroValue9
 t37:=Tryz.underlying226
 a37:=Tryz.isAgg226
 z37:=Tryz.sizeOf226
 v37:=Tryz.zeroValue226
 t70:=Tryz.underlying225
 a70:=Tryz.isAgg225
 z70:=Tryz.sizeOf225
 v70:=Tryz.zeroValue225
 t72:=Tryz.underlying228
 a72:=Tryz.isAgg228
 z72:=Tryz.sizeOf228
 v72:=Tryz.zeroValue228
 t127:=Tryz.underlying266
 a127:=Tryz.isAgg266
 z127:=Tryz.sizeOf266
 v127:=Tryz.zeroValue266 }
def Tryz.lays283_ren:Go.Shelf.Ren:=⟨fun|283=>258|n=>n,fun|3=>3|9=>9|4=>4|n=>n,fun|n=>n⟩
theorem Tryz.lays283:Go.Proofs.Lays.n283 Tryz.prog Tryz.lays283_ren:={
 mixed:=by kernel_rfl
 f283:=Tryz.func258.trans (congrArg some (by kernel_rfl))
 t3:=Tryz.underlying3
 a3:=Tryz.isAgg3
 z3:=Tryz.sizeOf3
 v3:=Tryz.zeroValue3
 t4:=Tryz.underlying4
 a4:=Tryz.isAgg4
 z4:=Tryz.sizeOf4
 v4:=Tryz.zeroValue4
 t9:=Tryz.underlying9
 a9:=Tryz.isAgg9
 z9:=Tryz.sizeOf9
 v9:=Tryz.zeroValue9 }
def Tryz.lays284_ren:Go.Shelf.Ren:=⟨fun|284=>259|129=>245|317=>263|318=>264|n=>n,fun|53=>190|3=>3|212=>295|0=>0|4=>4|46=>238|5=>5|9=>9|n=>n,fun|17=>9|n=>n⟩
theorem Tryz.lays284:Go.Proofs.LaysM.n284 Tryz.prog Tryz.lays284_ren:={
 mixed:=by kernel_rfl
 f129:=Tryz.func245.trans (congrArg some (by kernel_rfl))
 f284:=Tryz.func259.trans (congrArg some (by kernel_rfl))
 f317:=Tryz.func263.trans (congrArg some (by kernel_rfl))
 f318:=Tryz.func264.trans (congrArg some (by kernel_rfl))
 t0:=Tryz.underlying0
 a0:=Tryz.isAgg0
 z0:=Tryz.sizeOf0
 v0:=Tryz.zeroValue0
 t3:=Tryz.underlying3
 a3:=Tryz.isAgg3
 z3:=Tryz.sizeOf3
 v3:=Tryz.zeroValue3
 t4:=Tryz.underlying4
 a4:=Tryz.isAgg4
 z4:=Tryz.sizeOf4
 v4:=Tryz.zeroValue4
 t5:=Tryz.underlying5
 a5:=Tryz.isAgg5
 z5:=Tryz.sizeOf5
 v5:=Tryz.zeroValue5
 t9:=Tryz.underlying9
 a9:=Tryz.isAgg9
 z9:=Tryz.sizeOf9
 v9:=Tryz.zeroValue9
 t46:=Tryz.underlying238
 a46:=Tryz.isAgg238
 z46:=Tryz.sizeOf238
 v46:=Tryz.zeroValue238
 t53:=Tryz.underlying190
 a53:=Tryz.isAgg190
 z53:=Tryz.sizeOf190
 v53:=Tryz.zeroValue190
 t212:=Tryz.underlying295
 a212:=Tryz.isAgg295
 z212:=Tryz.sizeOf295
 v212:=Tryz.zeroValue295
 g17:=by kernel_rfl
 i0:=by kernel_rfl
 i3:=by kernel_rfl
 i4:=by kernel_rfl
 i5:=by kernel_rfl
 i9:=by kernel_rfl
 i46:=by kernel_rfl
 i53:=by kernel_rfl
 i212:=by kernel_rfl
 m17:=by kernel_rfl }
def Tryz.lays285_ren:Go.Shelf.Ren:=⟨fun|285=>260|n=>n,fun|37=>226|53=>190|3=>3|4=>4|51=>233|9=>9|5=>5|0=>0|n=>n,fun|n=>n⟩
theorem Tryz.lays285:Go.Proofs.Lays.n285 Tryz.prog Tryz.lays285_ren:={
 mixed:=by kernel_rfl
 f285:=Tryz.func260.trans (congrArg some (by kernel_rfl))
 t0:=Tryz.underlying0
 a0:=Tryz.isAgg0
 z0:=Tryz.sizeOf0
 v0:=Tryz.zeroValue0
 t3:=Tryz.underlying3
 a3:=Tryz.isAgg3
 z3:=Tryz.sizeOf3
 v3:=Tryz.zeroValue3
 t4:=Tryz.underlying4
 a4:=Tryz.isAgg4
 z4:=Tryz.sizeOf4
 v4:=Tryz.zeroValue4
 t5:=Tryz.underlying5
 a5:=Tryz.isAgg5
 z5:=Tryz.sizeOf5
 v5:=Tryz.zeroValue5
 t9:=Tryz.underlying9
 a9:=Tryz.isAgg9
 z9:=Tryz.sizeOf9
 v9:=Tryz.zeroValue9
 t37:=Tryz.underlying226
 a37:=Tryz.isAgg226
 z37:=Tryz.sizeOf226
 v37:=Tryz.zeroValue226
 t51:=Tryz.underlying233
 a51:=Tryz.isAgg233
 z51:=Tryz.sizeOf233
 v51:=Tryz.zeroValue233
 t53:=Tryz.underlying190
 a53:=Tryz.isAgg190
 z53:=Tryz.sizeOf190
 v53:=Tryz.zeroValue190 }
end Go.Proofs
namespace Go.Proofs.YtkkadnoecklepaaGreatDoor
open Go.RowKit Go.Sort Go.Lib
open Go.Proofs.Tryz
set_option linter.unusedSimpArgs false
set_option linter.unusedVariables false
set_option maxHeartbeats 8000000
set_option maxRecDepth 1000000
def Tab(w:Vz):Prop:=Lib.TabIs prog w "internal/strconv.uint64pow10" .u64 Lib.pow10Tab
theorem Tab.below{w w':Vz}(h:Tab w)(c:Bl w w'):Tab w':=by
 unfold Tab Lib.TabIs World.var? at*;cases hg:prog.globalNamed "internal/strconv.uint64pow10" with
 |none=>simp[hg] at h
 |some g=>
  simp only[hg,Option.bind_some] at h ⊢;have a:g<w.heap.size:=by
   rcases Nat.lt_or_ge g w.heap.size with b|b
   . exact b
   . simp[Array.getElem?_eq_none b] at h
  rw[c.block g a];exact h
theorem Qxs(i:Nat)(h:i<100)(w:Vz):Calls prog 258 #[.int .i64 i] w fun e w'=>e=.returned (.string ⟨(Lib.decDigits i).toArray⟩)/\w'=w:=Any.internal_strconv_small Tryz.lays283 i h w
theorem Qxt(u:Nat)(a:1<=u)(b:u<18446744073709551616)(w:Vz)(c:Tab w):Calls prog 259 #[.int .u64 u] w fun e w'=>e=.returned (.int .i64 (Lib.nDigits u))/\w'=w:=Any.internal_strconv_numDigits Tryz.lays284 u a b w c
theorem Qxu(a c f:Nat)(u:Nat)(d:Array UInt8)(w:Vz)(j:Go.Sort.Holds (fun (b:UInt8)=>Value.int .u8 (b.toNat:Int)) w a c d)(k:u<10 ^ d.size)(g:u<18446744073709551616)(h:d.size<4611686018427387904):
 Calls prog 260 #[.slice (some ⟨a,c,none⟩) d.size f,.int .u64 u] w fun e w'=>
  e=.returned (.tuple #[])/\∃(n l:Nat) (i:Array UInt8),w'=(putRow (fun (b:UInt8)=>Value.int .u8 (b.toNat:Int)) w a c i).drewN n/\FmtInv d.size u 0 l i:=Any.internal_strconv_formatBase10 Tryz.lays285 a c f u d w j k g h
theorem Qxv(w:Vz)(T:Vr)(a:Nat)(e:a<=24):Go.Sort.Holds (fun (b:UInt8)=>Value.int .u8 (b.toNat:Int)) (w.alloc (.cells zeros24 T)) w.heap.size 0 (Array.replicate a (0:UInt8)):=fun j c=>by
 have d:j<a:=by simpa using c
 refine⟨?_,World.frozen?_alloc_new _ _ _ _⟩;rw[World.cell?_alloc_new,zeros24_at _ (by omega),getElem!_pos _ j c];simp
theorem Qxw(w:Vz)(o:Obj)(c:Array UInt8)(k:Nat):Bl w ((putRow (fun (b:UInt8)=>Value.int .u8 (b.toNat:Int)) (w.alloc o) w.heap.size 0 c).drewN k):=by
 rw[alloc_eq_grow];obtain⟨a,_,e⟩:=putRow_grow_new (fun (b:UInt8)=>Value.int .u8 (b.toNat:Int)) w #[o] w.heap.size 0 c lZ;rw[e];exact below_grow w.heap.size w lZ k a
theorem Qxx(u:Nat)(a:u<18446744073709551616)(w:Vz)(v:Tab w):
 Calls prog 256 #[.int .u64 u,.int .i64 10] w fun e w'=>e=.returned (.string ⟨(Lib.decDigits u).toArray⟩)/\Below w.heap.size w w':=by
 by_cases E:u<100
 .
  have F:=Hi (Qxs u E w);clear v;go_enter func256,ntmps256;go_wp2_with fail;go_fit F.o;rintro e H ⟨rfl,x⟩;subst x;clear F;go_wp2;go_ret;exact⟨rfl,Below.refl _ _⟩
 .
  have i:Lib.nDigits u<=20:=by have:=Lib.numDigits_eq u (by omega) a;split at this<;>omega
  obtain⟨p,c,d,f⟩:=Ic (Lib.lt_pow_nDigits u) (Lib.decDigits_length u) (Qxt u (by omega) a (w.alloc (.cells zeros24 288)) (Tab.below v (bR.alloc lZ _))) (Qxv w 288 (Lib.nDigits u) (by omega));have q:=Hi (Qxu w.heap.size 0 24 u (Array.replicate (Lib.nDigits u) 0) (w.alloc (.cells zeros24 288)) f.o (by rw[Array.size_replicate];exact p.o) a (by rw[Array.size_replicate];omega));rw[Array.size_replicate] at q;obtain⟨N,y⟩:=nm (Lib.nDigits u);have I:∀W,(Instr.sliceAt 288 (.pointer (some ⟨w.heap.size,0,none⟩)) none (some (.int .i64 (N:Int))) none).run prog W=.ok (.slice (some ⟨w.heap.size,0,none⟩) N 24) W:=fun W=>by
   have z:prog.arrayLen 288=24:=by simp[Program.arrayLen,underlying288]
   rw[run_sliceAt_array_h W 288 ⟨w.heap.size,0,none⟩ (by simp[Program.arrayLen,Program.elem,underlying288]) .i64 (N:Int) (by omega) (by rw[z];omega)];go_simp
  rw[y] at p c d f q i;have K:¬((u:Int)<100):=by omega
  obtain⟨L,l⟩:=nm (w.alloc (.cells zeros24 288));obtain⟨A,r⟩:=Ia l (fun s k=>Qxw w (.cells zeros24 288) s k);rw[l] at d f q r;have B:=Hi y;have G:N<=24:=by omega
  clear v E l y;go_enter func256,ntmps256;go_wp2_with fail;have m:=A.o;unfold zeros24 at m;rw[m];clear m;go_fit d.o;rintro e H ⟨rfl,x⟩;subst x;clear d;go_wp2_with fail;go_fit q.o;rintro e C ⟨rfl,k,M,s,n,t⟩;have g:=Hi (r.o s k);rw[<-n] at g;have J:(convert 226 9 (.slice (some ⟨w.heap.size,0,none⟩) N 24)).run prog C=.ok (.string ⟨(Lib.decDigits u).toArray⟩) C:=by
   have h:=run_convert_bytes_back (P:=prog) C 226 9 5 ⟨w.heap.size,0,none⟩ 24 (Lib.decDigits u) underlying226 underlying5 underlying9 (fun j D=>by
    rw[c.o] at D;rw[Lib.row_is_numeral (by rw[B.o];exact t) j (by rw[c.o];exact D),Lib.add_plain,n,World.cell?_drewN]
    exact cell?_putRow (fun (b:UInt8)=>Value.int .u8 (b.toNat:Int)) _ w.heap.size 0 _ s f.o (by rw[t.size,Array.size_replicate]) j (by rw[t.size];exact D))
   rw[c.o] at h;exact h
  clear n t q;go_wp2;go_ret;exact⟨rfl,g.o⟩
theorem Qxy(u:Nat)(a:u<18446744073709551616)(w:Vz)(b:Tab w):
 Calls prog 249 #[.int .u64 u,.int .i64 10] w fun e w'=>e=.returned (.string ⟨(Lib.decDigits u).toArray⟩)/\Below w.heap.size w w':=by
 have c:=Hi (Qxx u a w b);clear b;go_enter func249,ntmps249;go_wp2_with fail;go_fit c.o;rintro e g ⟨rfl,d⟩;have f:=Hi d;clear c d;go_wp2;go_ret;exact⟨rfl,f.o⟩
open Go.RowKit
theorem Tryz.extra:Builder.Extra prog Tryz.lays169_ren where
 sizeBuilder:=by kernel_rfl
 liesBuilder:=by kernel_rfl
 t5:=underlying5
 a5:=Tryz.isAgg5
 z5:=Tryz.sizeOf5
 v5:=Tryz.zeroValue5
 infoByte:=by kernel_rfl
 cellsByte:=by kernel_rfl
 sizeByte:=by kernel_rfl
 neB5:=by decide
theorem Tryz.bdSize:(prog.info? 228).map (·.size)=some 2:=by kernel_rfl
theorem Tryz.bdLies:liesAt prog prog.depth 228 (2 / prog.cellsOf 228) 0 228 1=true:=by kernel_rfl
abbrev Bd(B b:Nat)(bs:Vv)(w:Vz):Prop:=Lib.IsBuilder 228 5 B b bs w
abbrev BdAt(B b:Nat)(bs:Vv)(w:Vz):Prop:=Lib.BuilderAt 228 5 B b (.pointer (some ⟨b,0,none⟩)) bs w
theorem Qxa(B b:Nat)(l:Vu)(w:Vz)(h:Bd B b (Lib.byteCells l) w)(a:B<=w.heap.size):
 Calls prog 190 #[.pointer (some ⟨b,0,none⟩)] w fun e w'=>e=.returned (.string ⟨l.toArray⟩)/\Below B w w':=Any.Builder_String_any Tryz.lays169 Tryz.extra B b l w h a
theorem Qxb(b:Nat)(w:Vz)(d:w.cell? ⟨b,0,none⟩=some (.pointer (some ⟨b,0,none⟩))):
 Calls prog 257 #[.pointer (some ⟨b,0,none⟩)] w fun e w'=>e=.returned (.tuple #[])/\w'=w:=by
 obtain⟨j,a,_⟩:=Option.map_eq_some_iff.1 Tryz.bdSize;have c:∀w,(binOp .neq 225 (.pointer (some ⟨b,0,none⟩)) (.pointer (some ⟨b,0,none⟩))).run prog w=.ok (.bool false) w:=fun w=>Lib.run_neq_ptr_same w ⟨b,0,none⟩ underlying225 a
 go_enter func257,ntmps257;go_wp2;go_end0;exact⟨rfl,rfl⟩
theorem Qxc(b:Nat)(w:Vz)(h:w.cell? ⟨b,0,none⟩=some (.pointer none))(a:w.shape? b=some (228,2))(f:w.frozen? ⟨b,0,none⟩=false):
 Calls prog 257 #[.pointer (some ⟨b,0,none⟩)] w fun e w'=>e=.returned (.tuple #[])/\w'=w.setCell ⟨b,0,none⟩ (.pointer (some ⟨b,0,none⟩)):=by
 obtain⟨j,d,c⟩:=Option.map_eq_some_iff.1 Tryz.bdSize;have i:(convert 225 292 (.pointer (some ⟨b,0,none⟩))).run prog w=.ok (.pointer (some ⟨b,0,none⟩)) w:=Lib.run_to_unsafe w ⟨b,0,none⟩ underlying225 underlying292 d (by rw[c];decide) a (Nat.zero_lt_succ 1);have g:(callFunc 262 #[.pointer (some ⟨b,0,none⟩)]).run prog w=.ok (.value (.pointer (some ⟨b,0,none⟩))) w:=by
  rw[run_callFunc_extern func262 (by kernel_rfl) (by kernel_rfl) (by kernel_rfl) (e:=Extern.AbiNoEscape.same) (by kernel_rfl),Lib.run_noEscape];rfl
 have k:(convert 292 225 (.pointer (some ⟨b,0,none⟩))).run prog w=.ok (.pointer (some ⟨b,0,none⟩)) w:=Lib.run_from_unsafe w ⟨b,0,none⟩ underlying292 underlying225 d a Tryz.bdLies;clear d c a;go_enter func257,ntmps257;go_wp2_with simp only[g];go_end0;exact⟨rfl,rfl⟩
def bufOf(w:Vz)(b:Nat):Option Nat:=(w.cell? ⟨b,1,none⟩).bind Value.ownBlock
structure Wr (b:Nat) (w w':Vz):Prop where
 size:w.heap.size<=w'.heap.size
 block:∀k,k<w.heap.size->k≠b->bufOf w b≠some k->w'.heap[k]?=w.heap[k]?
 buf:bufOf w' b=bufOf w b∨∃g,w.heap.size<=g/\bufOf w' b=some g
theorem Wr.refl(b:Nat)(w:Vz):Wr b w w:=⟨Nat.le_refl _,fun _ _ _ _=>rfl,.inl rfl⟩
theorem Wr.keep{b:Nat}{w w':Vz}(h:Wr b w w'){k:Nat}(hk:k<w.heap.size)(d:bufOf w b≠some k):bufOf w' b≠some k:=by
 rcases h.buf with a|⟨g,e,a⟩
 . rw[a];exact d
 . rw[a];intro c;injection c with c;omega
theorem Wr.trans{b:Nat}{u v w:Vz}(h:Wr b u v)(k:Wr b v w):Wr b u w:=by
 refine⟨Nat.le_trans h.size k.size,fun i c d e=>?_,?_⟩
 . rw[k.block i (by have:=h.size;omega) d (h.keep c e)]
   exact h.block i c d e
 .
  rcases k.buf with a|⟨g,f,a⟩
  . rw[a];exact h.buf
  . exact .inr ⟨g,by have:=h.size;omega,a⟩
theorem Wr.below{b:Nat}{w w':Vz}(a:b<w.heap.size)(h:Bl w w'):Wr b w w':=
 ⟨h.size,fun k hk _ _=>h.block k hk,.inl (by unfold bufOf;rw[h.cell (p:=⟨b,1,none⟩) a])⟩
theorem BdAt.lt'{B b:Nat}{a:Vv}{w:Vz}(h:Bd B b a w):b<w.heap.size:=by rcases h with h|h<;>exact h.lt
theorem Qmw{b:Nat}{w f c:Vz}{p v d:Value}(g:w.heap[b]?=some (.cells #[p,v] 228 (0,0)))(a:Bl w f)(i:f.grownBy c v.ownBlock)(j:d.ownBlock=v.ownBlock∨d.ownBlock=some f.heap.size)(l:v.ownBlock≠some b):Wr b w (c.setCell ⟨b,1,none⟩ d):=by
 have q:b<w.heap.size:=by
  rcases Nat.lt_or_ge b w.heap.size with m|m
  . exact m
  . simp[Array.getElem?_eq_none m] at g
 have o:bufOf w b=v.ownBlock:=by unfold bufOf;rw[Lib.cell_of_heap g];rfl
 have r:f.heap[b]?=some (.cells #[p,v] 228 (0,0)):=by rw[a.block b q];exact g
 have s:c.heap[b]?=some (.cells #[p,v] 228 (0,0)):=by rw[i.block b (by have:=a.size;omega) (fun e=>l e.symm)];exact r
 have t:bufOf (c.setCell ⟨b,1,none⟩ d) b=d.ownBlock:=by
  unfold bufOf;rw[World.cell?_setCell_same _ _ _ (show c.cell? ⟨b,1,none⟩=some v by rw[Lib.cell_of_heap s];rfl)];rfl
 refine⟨?_,fun k hk n u=>?_,?_⟩
 .
  have x:=a.size;have y:=i.size;simp[World.setCell];omega
 . rw[Below.heap_setCell _ _ _ _ n,i.block k (by have:=a.size;omega) (fun e=>u (by rw[o];exact e.symm)),a.block k hk]
 .
  rw[t,o];rcases j with h|h
  . exact .inl h
  . exact .inr ⟨_,a.size,h⟩
def U8In(C:Vw):Prop:=∀(i:Nat) u,C[i]?=some u->∃n,u=Value.int .u8 n
def U8Blk(w:Vz)(v:Value):Prop:=∀g,v.ownBlock=some g->∃C t f,w.heap[g]?=some (.cells C t f)/\U8In C
theorem U8In.append{C D:Vw}(h:U8In C)(k:U8In D):U8In (C++D):=fun i u a=>by
 rw[Array.getElem?_append] at a
 split at a
 . exact h _ _ a
 . exact k _ _ a
theorem U8In.zeros(n:Nat):U8In (Builtin.zeroCells (Value.int .u8 0).cells n):=fun i u b=>by
 have a:=Array.mem_of_getElem? b;simp[Builtin.zeroCells,Value.cells] at a;obtain⟨j,c,e⟩:=a;rw[Nat.mod_one] at e;exact⟨0,e.symm⟩
theorem U8In.list{l:Vv}(h:∀u,u∈ l->∃n,u=Value.int .u8 n):U8In l.toArray:=fun i u a=>h u (by rw[List.getElem?_toArray] at a;exact mO a)
theorem U8In.mem{C:Vw}(h:U8In C){u:Value}(b:u∈ C.toList):∃n,u=Value.int .u8 n:=by
 obtain⟨i,a⟩:=List.mem_iff_getElem?.1 b;exact h i u (by rw[Array.getElem?_toList] at a;exact a)
theorem Qmx(s:Vs):∀u,u∈ Lib.strCells s->∃n,u=Value.int .u8 n:=fun u a=>by
 unfold Lib.strCells at a;obtain⟨c,_,rfl⟩:=List.mem_map.1 a;exact⟨_,rfl⟩
theorem U8Blk.new(w:Vz)(C:Vw)(t:Vr)(n a:Nat)(h:U8In C):U8Blk (w.drew.alloc (.cells C t)) (.slice (some ⟨w.heap.size,0,none⟩) n a):=fun g b=>by
 have e:w.heap.size=g:=by simpa [Value.ownBlock] using b
 subst e;exact⟨C,t,_,heap_alloc_new w.drew _,h⟩
theorem U8Blk.row{w:Vz}{g n c n' cap':Nat}{b a:Vw}{t:Vr}{f:Nat × Nat}(i:w.heap[g]?=some (.cells b t f))(h:U8In a):U8Blk (w.setRow g a) (.slice (some ⟨g,0,none⟩) n c):=fun j d=>by
 have e:g=j:=by simpa [Value.ownBlock] using d
 subst e;exact⟨a,t,f,setRow_heap w g b _ t _ i,h⟩
theorem Qxz{w:Vz}{t:Nat}{v H:Value}{n m A:Nat}{xs b:Vv}{a:Addr}{w':Vz}{ty:Vr}{i:TypeInfo}(B:prog.info? 5=some i)(I:i.zero=some (.int .u8 0))(f:i.size=1)(x:i.bytes=1)(e:w.ownsRow t 5 1 v n xs)(d:U8Blk w v)
 (hl:b.length=m) (c:∀j u,b[j]?=some u->w.cell? (a.add j)=some u) (J:∀u∈ b,u.oneCell'=true) (D:∀u,u∈ b->∃n,u=Value.int .u8 n) (K:0<m) (L:n+m<=140737488355328)
 (s:(Builtin.append_ #[226,226] ty #[v,.slice (some a) m A]).run prog w=.ok H w'):U8Blk w' H:=by
 have E:xs.length=n:=by simpa using e.1
 have h:=e;have k:b.length=m*i.size:=by rw[f,Nat.mul_one];exact hl
 rcases e.2 with ⟨rfl,rfl⟩|⟨g,l,F,rfl,M,G,N,O,Q,o⟩
 .
  rw[run_append_nil (P:=prog) w 226 ty 5 i (.int .u8 0) underlying226 B I a m A b k c K (by omega) (by rw[x];omega)] at s;injection s with y z
  rw[<-y,<-z];exact U8Blk.new _ _ _ _ _ ((U8In.list D).append (U8In.zeros _))
 .
  obtain⟨C,R,S,hC,p⟩:=d g rfl;rw[G] at hC;injection hC with hC
  injection hC with hC _ _
  subst hC;by_cases q:n+m<=l
  .
   rw[run_append_room (P:=prog) w 226 ty 5 i underlying226 B g n l F G a m A b k c J q (by rw[f];omega)] at s;injection s with y z
   rw[<-y,<-z];refine U8Blk.row (n':=0) (cap':=0) G (U8In.list fun u d=>?_);simp only[List.mem_append] at d;rcases d with (d|d)|d
   . exact p.mem (List.mem_of_mem_take d)
   . exact D u d
   . exact p.mem (List.mem_of_mem_drop d)
  .
   have r:=h.cells (g:=g) rfl;rw[run_append_grow (P:=prog) w 226 ty 5 i (.int .u8 0) underlying226 B I ⟨g,0,none⟩ n l xs (by rw[f];simpa using E) r a m A b k c (by omega) (by omega) (by rw[x];exact growslice_fits (by omega) (by omega))] at s;injection s with y z
   rw[<-y,<-z];refine U8Blk.new _ _ _ _ _ (((U8In.list fun u d=>?_).append (U8In.list D)).append (U8In.zeros _));rw[<-o] at d;exact p.mem (List.mem_of_mem_take d)
structure Bd8 (B b:Nat) (l:Vu) (w:Vz):Prop where
 bd:Bd B b (Lib.byteCells l) w
 u8:∀v,w.cell? ⟨b,1,none⟩=some v->U8Blk w v
theorem U8Blk.below{w w':Vz}{v:Value}(h:U8Blk w v)(b:∀g,v.ownBlock=some g->w'.heap[g]?=w.heap[g]?):U8Blk w' v:=fun g a=>by
 obtain⟨C,t,f,c,d⟩:=h g a;exact⟨C,t,f,by rw[b g a];exact c,d⟩
theorem Qmy(B b:Nat)(d:Vv)(w:Vz)(h:Bd B b d w)(f:∀v,w.cell? ⟨b,1,none⟩=some v->U8Blk w v):
 Calls prog 257 #[.pointer (some ⟨b,0,none⟩)] w fun e w'=>e=.returned (.tuple #[])/\BdAt B b d w'/\Below B w w'/\Wr b w w'/\(∀v,w'.cell? ⟨b,1,none⟩=some v->U8Blk w' v):=by
 rcases h with h|h
 .
  refine(Qxc b w h.cell0 h.shape h.frozen0).mono ?_;rintro e w' ⟨rfl,rfl⟩;have i:(w.setCell ⟨b,0,none⟩ (.pointer (some ⟨b,0,none⟩))).cell? ⟨b,1,none⟩=w.cell? ⟨b,1,none⟩:=World.cell?_setCell_other _ _ _ _ (by simp);refine⟨rfl,h.used _,(Below.refl B w).setCell (p:=⟨b,0,none⟩) h.1 _,⟨by simp[World.setCell],fun k hk j _=>Below.heap_setCell _ _ _ _ j,.inl ?_⟩,fun v a=>?_⟩
  . unfold bufOf
    rw[i]
  .
   rw[i] at a;obtain⟨_,u,l,_,c⟩:=h;have:v=u:=by rw[Lib.cell_of_heap l] at a;simpa using a.symm
   subst this;exact(f v a).below fun g m=>Below.heap_setCell _ _ _ _ (fun e=>c (by rw[m,e]))
 .
  refine(Qxb b w h.cell0).mono ?_;rintro e w' ⟨rfl,rfl⟩;exact⟨rfl,h,Below.refl B _,Wr.refl _ _,f⟩
theorem Qb7{P:Program}(w:Vz){ops:Array Oper}{rest:List Oper}{o:Oper}{a:Act}{Q:Exit->Act->World->Prop}(b:o.guard=none)(c x:Operand)(t u:Vr)
 (e:o.op=.call { callee:=.builtin .append,args:=#[c,x],argTypes:=#[t,u] }) (v y d:Value) (w':Vz) (f:a.eval c=v) (g:a.eval x=y)
 (i:(Builtin.append_ #[t,u] o.type #[v,y]).run P w=.ok d w') (h:wpList P ops Q rest (a.put o.dst d) w'):wpList P ops Q (o :: rest) a w:=by
 refine wpList_plain b fun K j=>?_
 unfold Oper.wp execOp;simp only[e,resolve,invoke,builtin,Sem.run_bind,Sem.run_pure,Result.andThen_ok,List.map_toArray,List.map_cons,List.map_nil,f,g,i];exact j _ _ h
def Wrote(B b:Nat)(l:Vu)(r:Value)(w:Vz)(e:Ending)(w':Vz):Prop:=e=.returned r/\Bd8 B b l w'/\Below B w w'/\Wr b w w'
theorem Qmz{a:Vz}{b:Nat}{p v c:Value}(f:a.heap[b]?=some (.cells #[p,v] 228 (0,0)))(h:U8Blk a c)(i:c.ownBlock≠some b):∀u,(a.setCell ⟨b,1,none⟩ c).cell? ⟨b,1,none⟩=some u->U8Blk (a.setCell ⟨b,1,none⟩ c) u:=fun u d=>by
 rw[World.cell?_setCell_same _ _ _ (show a.cell? ⟨b,1,none⟩=some v by rw[Lib.cell_of_heap f];rfl)] at d;injection d with d
 subst d;exact h.below fun g j=>Below.heap_setCell _ _ _ _ (fun e=>i (by rw[j,e]))
theorem Qx0(B b:Nat)(l:Vu)(c:UInt8)(w:Vz)(h:Bd8 B b l w)(W:l.length+1<=140737488355328)(aa:B<=w.heap.size):
 Calls prog 250 #[.pointer (some ⟨b,0,none⟩),.int .u8 (c.toNat:Int)] w (Wrote B b (l++ [c]) .nilIface w):=by
 obtain⟨i0,L,z,A,hz2⟩:=info_parts Tryz.info8;have X:=Hi (Qmy B b (Lib.byteCells l) w h.bd h.u8);have ab:=Lib.byteCells_length l;clear h;go_enter func250,ntmps250;go_wp2_with fail;go_fit X.o;rintro e n ⟨rfl,⟨hB,v,r,i,C⟩,D,F,Y⟩;clear X;have c1:n.cell? ⟨b,1,none⟩=some v:=by rw[Lib.cell_of_heap r];rfl
 have G:=Y v c1;have M:b<n.heap.size:=by
  rcases Nat.lt_or_ge b n.heap.size with N|N
  . exact N
  . simp[Array.getElem?_eq_none N] at r
 have ad:=D.size;have t:Bl n (n.alloc (.cells #[.int .u8 (c.toNat:Int)] 5)):=bR.alloc lZ _;have f:=Qbn i t;have E:∀j u,[Value.int .u8 (c.toNat:Int)][j]?=some u->(n.alloc (.cells #[.int .u8 (c.toNat:Int)] 5)).cell? ((⟨n.heap.size,0,none⟩:Addr).add j)=some u:=World.news_of_block (heap_alloc_new n _);have s:∀u∈ [Value.int .u8 (c.toNat:Int)],u.oneCell'=true:=fun u O=>by rw[List.mem_singleton.1 O];rfl
 obtain⟨v',Z,Q,a,d,_,H⟩:=run_append_own_at (P:=prog) (n.alloc (.cells #[.int .u8 (c.toNat:Int)] 5)) B 226 226 5 i0 (.int .u8 0) 1 1 underlying226 L z A hz2 rfl (by decide) v _ _ f ⟨n.heap.size,0,none⟩ 1 1 [.int .u8 (c.toNat:Int)] rfl E s (by unfold maxLen;omega) (by omega) (by rw[World.size_alloc];omega);have y:=G.below fun g hg=>t.block g ((i.lt g hg).2)
 have I:=Qxz (m:=1) L z A hz2 f y rfl E s (fun u O=>⟨_,List.mem_singleton.1 O⟩) (by decide) (by omega) Q;have q:Z.heap[b]?=some (.cells #[.pointer (some ⟨b,0,none⟩),v] 228 (0,0)):=by
  rw[d.block b (by simp;omega) (fun e=>C e.symm),Lib.alloc_old n _ b M];exact r
 obtain⟨R,n',x,rfl⟩:∃R n' x,v'=.slice R n' x:=by
  rcases a.2 with ⟨S,_⟩|⟨g,x,ae,S,_⟩
  . exact⟨_,_,_,S⟩
  . exact⟨_,_,_,S⟩
 have d1:Z.cell? ⟨b,1,none⟩=some v:=by rw[Lib.cell_of_heap q];rfl
 have f1:=Lib.frozen_of_heap q 1;obtain⟨J,U,K,V,HR⟩:=Id (Lib.BuilderAt.put (T:=228) (e:=5) hB q (bs':=Lib.byteCells (l++ [c])) (by simpa [Lib.byteCells] using a) (by decide)) (Qmz q I (Lib.ownBlock_ne a q (by decide))) (((D.alloc (by omega) (.cells #[.int .u8 (c.toNat:Int)] 5)).grown d (by simp;omega) (fun k hk=>(i.lt k hk).1)).setCell (p:=⟨b,1,none⟩) hB (.slice R n' x)) (F.trans (Qmw r t d H C)) Q;clear r i C D F q a d H L z A hz2 Q I y s E f t G Y;go_wp2_with (at_builtin;refine Qb7 _ rfl _ _ 226 226 rfl v (.slice (some ⟨n.heap.size,0,none⟩) 1 1) _ _ rfl rfl HR.o ?_);clear HR;go_wp2;go_ret;exact⟨rfl,⟨.inr J.o,U.o⟩,K.o,V.o⟩
theorem Qx1{w:Vz}{m:Nat}{v t:Value}{n:Nat}{xs:Vv}{s:Vs}{w':Vz}{ty:Vr}{i:TypeInfo}(y:prog.info? 5=some i)(D:i.zero=some (.int .u8 0))(o:i.size=1)(p:i.bytes=1)(b:w.ownsRow m 5 1 v n xs)(a:U8Blk w v)(E:0<s.size)(F:n+s.size<=140737488355328)
 (l:(Builtin.append_ #[226,9] ty #[v,.string s]).run prog w=.ok t w'):(t.ownBlock=v.ownBlock∨t.ownBlock=some w.heap.size)/\U8Blk w' t:=by
 have z:xs.length=n:=by simpa using b.1
 have c:=b;rcases b.2 with ⟨rfl,rfl⟩|⟨g,d,A,rfl,G,B,H,I,J,e⟩
 .
  rw[run_append_nil_string (P:=prog) w 226 9 ty 5 i (.int .u8 0) underlying226 underlying9 y D s E (by omega) (by rw[p];omega)] at l;injection l with q r
  rw[<-q,<-r];refine⟨.inr rfl,U8Blk.new _ _ _ _ _ (U8In.append ?_ (U8In.zeros _))⟩;intro j u a;rw[Array.getElem?_map] at a;obtain⟨x,_,rfl⟩:=Option.map_eq_some_iff.1 a;exact⟨_,rfl⟩
 .
  obtain⟨C,K,L,hC,f⟩:=a g rfl;rw[B] at hC;injection hC with hC
  injection hC with hC _ _
  subst hC;by_cases h:n+s.size<=d
  .
   rw[Lib.run_append_room_string (P:=prog) w 226 9 ty 5 i underlying226 underlying9 y o g n d A B s h (by omega)] at l;injection l with q r
   rw[<-q,<-r];refine⟨.inl rfl,U8Blk.row (n':=0) (cap':=0) B (U8In.list fun u a=>?_)⟩;simp only[List.mem_append] at a;rcases a with (a|a)|a
   . exact f.mem (List.mem_of_mem_take a)
   . exact Qmx s u a
   . exact f.mem (List.mem_of_mem_drop a)
  .
   have k:=c.cells (g:=g) rfl;rw[Lib.run_append_grow_string (P:=prog) w 226 9 ty 5 i (.int .u8 0) underlying226 underlying9 y D ⟨g,0,none⟩ n d xs (by rw[o];simpa using z) k s (by omega) (by omega) (by rw[p];exact growslice_fits (by omega) (by omega))] at l;injection l with q r
   rw[<-q,<-r];refine⟨.inr rfl,U8Blk.new _ _ _ _ _ (((U8In.list fun u a=>?_).append (U8In.list (Qmx s))).append (U8In.zeros _))⟩;rw[<-e] at a;exact f.mem (List.mem_of_mem_take a)
theorem Qm0(B b:Nat)(l:Vu)(s:Vs)(w:Vz)(h:Bd8 B b l w)(R:0<s.size)(L:l.length+s.size<=140737488355328)(S:B<=w.heap.size):
 Calls prog 251 #[.pointer (some ⟨b,0,none⟩),.string s] w (Wrote B b (l++s.data.toList) (.tuple #[.int .i64 s.size,.nilIface]) w):=by
 obtain⟨U,D,m,n,hz2⟩:=info_parts Tryz.info8;have M:=Hi (Qmy B b (Lib.byteCells l) w h.bd h.u8);have V:=Lib.byteCells_length l;clear h;go_enter func251,ntmps251;go_wp2_with fail;go_fit M.o;rintro e C ⟨rfl,⟨hB,v,i,d,q⟩,r,t,N⟩;clear M;have c1:C.cell? ⟨b,1,none⟩=some v:=by rw[Lib.cell_of_heap i];rfl
 have W:=r.size;obtain⟨X,O,E,a,c,_⟩:=Lib.run_append_own_string (P:=prog) C B 226 9 226 5 U underlying226 underlying9 D m n hz2 v _ _ d s (by unfold maxLen;omega) (by omega) (by omega);obtain⟨u,x⟩:=Qx1 D m n hz2 d (N v c1) R (by omega) E;have F:b<C.heap.size:=by
  rcases Nat.lt_or_ge b C.heap.size with G|G
  . exact G
  . simp[Array.getElem?_eq_none G] at i
 have f:O.heap[b]?=some (.cells #[.pointer (some ⟨b,0,none⟩),v] 228 (0,0)):=by
  rw[c.block b F (fun e=>q e.symm)];exact i
 obtain⟨H,n',j,rfl⟩:∃H n' j,X=.slice H n' j:=by
  rcases a.2 with ⟨I,_⟩|⟨g,j,Y,I,_⟩
  . exact⟨_,_,_,I⟩
  . exact⟨_,_,_,I⟩
 have d1:O.cell? ⟨b,1,none⟩=some v:=by rw[Lib.cell_of_heap f];rfl
 have f1:=Lib.frozen_of_heap f 1;have y:Lib.byteCells (l++s.data.toList)=Lib.byteCells l++Lib.strCells s:=by rw[Lib.strCells_eq];simp[Lib.byteCells]
 obtain⟨z,J,A,K,Q⟩:=Id (Lib.BuilderAt.put (T:=228) (e:=5) hB f (bs':=Lib.byteCells (l++s.data.toList)) (by rw[y,List.length_append,Lib.strCells_length];exact a) (by decide)) (Qmz f x (Lib.ownBlock_ne a f (by decide))) ((r.grown c (by omega) (fun k hk=>(d.lt k hk).1)).setCell (p:=⟨b,1,none⟩) hB (.slice H n' j)) (t.trans (Qmw i bR c u q)) E;clear i d q r t f a c u D m n hz2 E x N y;go_wp2_with (at_builtin;refine Qb7 _ rfl _ _ 226 9 rfl v (.string s) _ _ rfl rfl Q.o ?_);clear Q;go_wp2;go_ret2;exact⟨rfl,⟨.inr z.o,J.o⟩,A.o,K.o⟩
theorem Bd8.parts{B b:Nat}{l:Vu}{w:Vz}(h:Bd8 B b l w):∃q a n c,w.heap[b]?=some (.cells #[.pointer q,.slice a n c] 228 (0,0)):=by
 have:∃q,Lib.BuilderAt 228 5 B b (.pointer q) (Lib.byteCells l) w:=by
  rcases h.bd with h|h
  . exact⟨_,h⟩
  . exact⟨_,h⟩
 obtain⟨q,hB,v,d,e,j⟩:=this;rcases e.2 with ⟨f,_⟩|⟨g,i,k,f,_⟩
 . exact⟨q,none,0,0,by rw[<-f];exact d⟩
 . exact⟨q,some ⟨g,0,none⟩,_,i,by rw[<-f];exact d⟩
theorem Bd8.lt{B b:Nat}{l:Vu}{w:Vz}(h:Bd8 B b l w):b<w.heap.size:=BdAt.lt' h.bd
theorem Bd8.not_buf{B b:Nat}{l:Vu}{w:Vz}(h:Bd8 B b l w){k o:Nat}{u:Value}(a:w.cell? ⟨k,o,none⟩=some u)(d:∀n,u≠.int .u8 n):bufOf w b≠some k:=by
 intro c;unfold bufOf at c;obtain⟨v,e,hk⟩:=Option.bind_eq_some_iff.1 c;obtain⟨C,t,f,hC,g⟩:=h.u8 v e k hk;rw[Lib.cell_of_heap hC] at a;obtain⟨n,i⟩:=g o u a;exact d n i
theorem Bd8.word_apart{B b:Nat}{l:Vu}{w:Vz}(h:Bd8 B b l w){k o:Nat}{n:Int}(d:w.cell? ⟨k,o,none⟩=some (.int .u64 n)):k≠b/\bufOf w b≠some k:=by
 refine⟨?_,h.not_buf d (fun n e=>by cases e)⟩;rintro rfl;obtain⟨q,a,m,c,f⟩:=h.parts;rw[Lib.cell_of_heap f] at d
 match o with
 |0=>simp at d
 |1=>simp at d
 |o+2=>simp at d
theorem Bd8.slice_apart{B b:Nat}{l:Vu}{w:Vz}(h:Bd8 B b l w){k:Nat}{a:Vx}{n c:Nat}(d:w.cell? ⟨k,0,none⟩=some (.slice a n c)):k≠b/\bufOf w b≠some k:=by
 refine⟨?_,h.not_buf d (fun n e=>by cases e)⟩;rintro rfl;obtain⟨q,a,m,c,f⟩:=h.parts;rw[Lib.cell_of_heap f] at d;simp at d
theorem Bd8.below{B b:Nat}{l:Vu}{w w':Vz}(h:Bd8 B b l w)(e:Bl w w'):Bd8 B b l w':=by
 have a:=h.lt;have c:∀p,Lib.BuilderAt 228 5 B b p (Lib.byteCells l) w->Lib.BuilderAt 228 5 B b p (Lib.byteCells l) w':=fun p ⟨hB,v,i,d,j⟩=>
  ⟨hB,v,by rw[e.block b a];exact i,Qbn d e,j⟩
 refine⟨?_,fun v k=>?_⟩
 .
  rcases h.bd with h|h
  . exact .inl (c _ h)
  . exact .inr (c _ h)
 .
  rw[e.cell (p:=⟨b,1,none⟩) a] at k;refine(h.u8 v k).below fun g m=>e.block g ?_
  obtain⟨C,t,f,hC,_⟩:=h.u8 v k g m;exact(Array.getElem?_eq_some_iff.1 hC).1
theorem U64.wrote{B b:Nat}{l:Vu}{w w':Vz}{a:Vx}{d n:Nat}{g:Vy}(h:U64 w a d g n)(o:Bd8 B b l w)(k:Wr b w w'):U64 w' a d g n:=by
 refine⟨⟨h.row.fit,?_,fun i p=>?_⟩,h.num,h.short⟩
 .
  rcases h.row.shape with e|⟨f,c,e,j⟩
  . exact .inl e
  . exact .inr ⟨f,c,e,by have:=k.size;omega⟩
 .
  obtain⟨f,c,e,j,m⟩:=h.row.cell i p;obtain⟨q,r⟩:=o.word_apart m;exact⟨f,c,e,by have:=k.size;omega,(World.cell?_of_block (w:=w) (k.block f j q r)).trans m⟩
structure OutT (fill:Bool) (k:Nat) (m:Vu) (x:Nat):Prop where
 dig:AllDigits m
 eq:decVal m=x
 most:m.length<=k
 full:fill=true->m.length=k
 some:m≠ []
 lean:fill=false->m= [48]∨m.head?≠Option.some 48
theorem Qmr(c:UInt8)(l:Vu):decVal (c :: l)=(c.toNat - 48)*10 ^ l.length+decVal l:=by
 have:=Qce [c] l
 simpa [decVal] using this
theorem Qhg(d:Nat)(h:d<10):(UInt8.ofNat (48+d)).toNat=48+d:=by
 rw[UInt8.toNat_ofNat'];omega
theorem Qxh(u:Nat):AllDigits (Lib.decDigits u)/\decVal (Lib.decDigits u)=u/\Lib.decDigits u≠ []/\(Lib.decDigits u= [48]∨(Lib.decDigits u).head?≠Option.some 48):=by
 induction u using Nat.strongRecOn with
 |_ u ih=>
  rw[Lib.decDigits];by_cases h:u<10
  .
   rw[dif_pos h];have e:=Qhg u h;refine⟨fun c a=>?_,?_,by simp,?_⟩
   . rw[List.mem_singleton.1 a,e];omega
   . simp only[decVal,List.foldl_cons,List.foldl_nil,e];omega
   .
    by_cases g:u=0
    . left;subst g;rfl
    .
     right;intro a;have d:UInt8.ofNat (48+u)=48:=by simpa using a
     rw[d] at e;have:(48:UInt8).toNat=48:=rfl;omega
  .
   rw[dif_neg h];obtain⟨d,f,i,b⟩:=ih (u / 10) (by omega);have e:=Qhg (u % 10) (by omega);refine⟨fun c a=>?_,?_,by simp,.inr ?_⟩
   .
    rcases List.mem_append.1 a with a|a
    . exact d c a
    . rw[List.mem_singleton.1 a,e];omega
   . rw[Qdv,f,e];omega
   .
    rcases b with b|b
    .
     rw[b] at f;have:decVal [48]=0:=rfl;omega
    .
     cases hl:Lib.decDigits (u / 10) with
     |nil=>exact absurd hl i
     |cons c t=>rw[hl] at b;simpa using b
theorem Qms{m:Vu}(a:AllDigits m)(b:m≠ [])(h:m.head?≠Option.some 48):10 ^ (m.length - 1)<=decVal m:=by
 cases m with
 |nil=>exact absurd rfl b
 |cons c t=>
  have f:=a c (List.mem_cons_self ..);have d:c.toNat≠48:=by
   intro e;apply h;simp only[List.head?_cons,Option.some.injEq];exact UInt8.toNat_inj.1 e
  rw[Qmr,List.length_cons,Nat.add_sub_cancel];have:1*10 ^ t.length<=(c.toNat - 48)*10 ^ t.length:=Nat.mul_le_mul_right _ (by omega);omega
theorem Qxi{u k:Nat}(e:u<10 ^ k)(hk:0<k):OutT false k (Lib.decDigits u) u:=by
 obtain⟨b,c,d,a⟩:=Qxh u;refine⟨b,c,?_,(fun h=>by cases h),d,fun _=>a⟩;rcases a with a|a
 . rw[a];simp;omega
 .
  have:=Qms b d a;rw[c] at this;have f:=(Nat.pow_lt_pow_iff_right (by decide:1<10)).1 (Nat.lt_of_le_of_lt this e);omega
theorem Qxj(j:Nat)(m:Vu):decVal (List.replicate j 48++m)=decVal m:=by
 induction j with
 |zero=>rfl
 |succ j a=>rw[List.replicate_succ,List.cons_append,Qk0,a]
theorem Qxk{u k:Nat}{m:Vu}(h:OutT false k m u):OutT true k (List.replicate (k - m.length) 48++m) u:=by
 refine⟨fun c a=>?_,by rw[Qxj];exact h.eq,?_,fun _=>?_,?_,(fun h=>by cases h)⟩
 .
  rcases List.mem_append.1 a with a|a
  . rw[List.eq_of_mem_replicate a];decide
  . exact h.dig c a
 . rw[List.length_append,List.length_replicate];have:=h.most;omega
 . rw[List.length_append,List.length_replicate];have:=h.most;omega
 . intro a
   exact h.some (List.append_eq_nil_iff.1 a).2
theorem Qmt{a:Bool}{k g lo:Nat}{j l:Vu}(b:OutT a k j g)(i:OutT true k l lo)(f:a=true∨0<g):OutT a (2*k) (j++l) (g*10 ^ k+lo):=by
 have m:=i.full rfl;refine⟨fun c e=>?_,by rw[Qce,b.eq,i.eq,m],?_,fun h=>?_,?_,fun h=>.inr ?_⟩
 .
  rcases List.mem_append.1 e with e|e
  . exact b.dig c e
  . exact i.dig c e
 . rw[List.length_append];have:=b.most;have:=i.most;omega
 . rw[List.length_append,b.full h,m];omega
 . intro e
   exact b.some (List.append_eq_nil_iff.1 e).1
 .
  have d:0<g:=by
   rcases f with f|f
   . rw[h] at f;cases f
   . exact f
  rcases b.lean h with hl|hl
  . rw[<-b.eq,hl] at d
    exact absurd d (by decide)
  .
   cases hm:j with
   |nil=>exact absurd hm b.some
   |cons c t=>rw[hm] at hl;simpa using hl
theorem OutT.grow{k k' x:Nat}{m:Vu}(h:OutT false k m x)(hk:k<=k'):OutT false k' m x:=⟨h.dig,h.eq,Nat.le_trans h.most hk,(fun h=>by cases h),h.some,h.lean⟩
theorem Qxl(m:Vu):val 10 (m.reverse.map (fun c=>c.toNat - 48))=decVal m:=by
 induction m with
 |nil=>rfl
 |cons c t a=>
  rw[List.reverse_cons,List.map_append,List.map_cons,List.map_nil,Qal,a,Qmr,List.length_map,List.length_reverse,Nat.mul_comm (10 ^ t.length)];omega
theorem OutT.dec{k x:Nat}{m:Vu}(h:OutT false k m x):IsDec m x:=by
 by_cases a:x=0
 .
  left;refine⟨a,?_⟩;rcases h.lean rfl with hl|hl
  . exact hl
  .
   have:=Qms h.dig h.some hl;rw[h.eq,a] at this;have:=Nat.pow_pos (n:=m.length - 1) (by decide:0<10);omega
 .
  right;refine⟨a,m.reverse.map (fun c=>c.toNat - 48),⟨?_,?_,by rw[Qxl];exact h.eq⟩,?_⟩
  .
   intro d e;obtain⟨c,b,rfl⟩:=List.mem_map.1 e;have:=h.dig c (List.mem_reverse.1 b);omega
  .
   right;rcases h.lean rfl with hl|hl
   . rw[<-h.eq,hl] at a
     exact absurd rfl a
   .
    cases hm:m with
    |nil=>exact absurd hm h.some
    |cons c t=>
     rw[hm] at hl;have b:=h.dig c (by rw[hm];exact List.mem_cons_self ..);have f:c.toNat≠48:=fun g=>hl (by simp only[List.head?_cons,Option.some.injEq];exact UInt8.toNat_inj.1 g)
     rw[List.reverse_cons,List.map_append,List.map_cons,List.map_nil,List.length_append,List.length_singleton,Nat.add_sub_cancel,List.getD_eq_getElem?_getD,List.getElem?_append_right lZ,Nat.sub_self];simp;omega
  .
   rw[<-List.map_reverse,List.reverse_reverse,List.map_map]
   conv=>lhs;rw[<-List.map_id m]
   apply List.map_congr_left;intro c b;have:=h.dig c b;apply UInt8.toNat_inj.1;simp only[id_eq,Function.comp_apply];rw[Qhg _ (by omega)];omega
def Digs(B b:Nat)(l:Vu)(fill:Bool)(k x:Nat)(w:Vz)(e:Ending)(w':Vz):Prop:=∃m,OutT fill k m x/\Wrote B b (l++m) (.tuple #[]) w e w'
theorem Qxd(w0 w:Vz)(b:Nat)(l:Vu)(u:Nat)(g:Bool)(O:Tab w0)(v:Bl w0 w)(h:Bd8 w0.heap.size b l w)(T:u<10000000000000000000)(hl:l.length+19<=140737488355328):
 Calls prog 227 #[.pointer (some ⟨b,0,none⟩),.int .u64 u,.bool g] w (Digs w0.heap.size b l g 19 u w):=by
 have G:=Hi (Qxi (u:=u) (k:=19) T (by decide));have x:=v.size;obtain⟨y,z⟩:=Ia (Qxy u (by omega) w (O.below v)) h;obtain⟨s,H⟩:=nm ((⟨(Lib.decDigits u).toArray⟩:ByteArray));rw[H] at y;have t:s.data.toList=Lib.decDigits u:=by rw[<-H]
 have p:s.size=(Lib.decDigits u).length:=by rw[<-t];simp
 have A:0<s.size:=by rw[p];exact List.length_pos_iff.2 G.o.some
 have P:s.size<=19:=by rw[p];exact G.o.most
 obtain⟨B,I⟩:=Ia t p;clear v h O H t p;cases g with
 |false=>
  go_enter func227,ntmps227;go_wp2_with fail;go_fit y.o;rintro e J ⟨rfl,a⟩;obtain⟨q,r⟩:=Ia (Qm0 w0.heap.size b l s J (z.o.below a) A (by omega) (by have:=a.size;omega)) a;clear y a;go_wp2_with fail;go_fit q.o;rintro e Q ⟨rfl,i,d,c⟩;obtain⟨f,m,n⟩:=Ib i d c;clear q i d c;go_wp2;go_end0;rw[B.o] at f;exact⟨_,G.o,rfl,f.o,(r.o.mono x).trans m.o,(Wr.below z.o.lt r.o).trans n.o⟩
 |true=>
  go_enter func227,ntmps227;go_wp2_with fail;go_fit y.o;rintro e J ⟨rfl,a⟩;obtain⟨K,r,L⟩:=Ib (z.o.below a) (a.mono x) (Wr.below z.o.lt a);have C:w0.heap.size<=J.heap.size:=by have:=a.size;omega
  clear y a z;go_wp2_with fail;go_loopw [13] (fun M wr=>∃j:Nat,j+s.size<=19/\M=.int .i64 j/\Bd8 w0.heap.size b (l++List.replicate j 48) wr/\Below w0.heap.size w wr/\Wr b w wr/\w0.heap.size<=wr.heap.size) (fun M _=>19 - (RowKit.intOf M).toNat)
  case atStart=>exact⟨0,by omega,rfl,by rw[List.replicate_zero,List.append_nil];exact K.o,r.o,L.o,C⟩
  case round=>
   obtain⟨j,W,rfl,i,v,R,S⟩:=hrel;obtain⟨D,E,F⟩:=Ib i v R;clear i v R;by_cases U:j+s.size<19
   .
    have V:((j:Int)<19 - (s.size:Int)):=by omega
    have q:=Hi (Qx0 w0.heap.size b (l++List.replicate j 48) 48 wr D.o (by rw[List.length_append,List.length_replicate];omega) S);rw[show ((48:UInt8).toNat:Int)=48 from rfl] at q;go_wp2_with fail;go_fit q.o;rintro e Q ⟨rfl,i,d,c⟩;obtain⟨f,m,n⟩:=Ib i d c;have hz2:=c.size;clear q i d c;go_wp2;go_roundw
    case rel=>exact⟨j+1,by omega,by go_num,by rw[List.replicate_succ',<-List.append_assoc];exact f.o,E.o.trans m.o,F.o.trans n.o,by omega⟩
    case measure=>simp[RowKit.intOf];omega
   .
    have V:¬((j:Int)<19 - (s.size:Int)):=by omega
    have N:j=19 - (Lib.decDigits u).length:=by rw[<-I.o];omega
    have q:=Hi (Qm0 w0.heap.size b (l++List.replicate j 48) s wr D.o A (by rw[List.length_append,List.length_replicate];omega) S);go_wp2_with fail;go_fit q.o;rintro e Q ⟨rfl,i,d,c⟩;obtain⟨f,m,n⟩:=Ib i d c;clear q i d c;go_wp2;go_end0;rw[B.o,List.append_assoc,N] at f;exact⟨_,Qxk G.o,rfl,f.o,E.o.trans m.o,F.o.trans n.o⟩
def SlIn(C:Vw):Prop:=∀(i:Nat) u,C[i]?=some u->∃a n c,u=Value.slice a n c
def SlBlk(w:Vz)(v:Value):Prop:=∀g,v.ownBlock=some g->∃C t f,w.heap[g]?=some (.cells C t f)/\SlIn C
theorem SlIn.append{C D:Vw}(h:SlIn C)(k:SlIn D):SlIn (C++D):=fun i u a=>by
 rw[Array.getElem?_append] at a
 split at a
 . exact h _ _ a
 . exact k _ _ a
theorem SlIn.zeros(n:Nat):SlIn (Builtin.zeroCells (Value.slice none 0 0).cells n):=fun i u b=>by
 have a:=Array.mem_of_getElem? b;simp[Builtin.zeroCells,Value.cells] at a;obtain⟨j,c,e⟩:=a;rw[Nat.mod_one] at e;exact⟨none,0,0,e.symm⟩
theorem SlIn.list{l:Vv}(h:∀u,u∈ l->∃a n c,u=Value.slice a n c):SlIn l.toArray:=fun i u b=>h u (by rw[List.getElem?_toArray] at b;exact mO b)
theorem SlIn.mem{C:Vw}(h:SlIn C){u:Value}(d:u∈ C.toList):∃a n c,u=Value.slice a n c:=by
 obtain⟨i,b⟩:=List.mem_iff_getElem?.1 d;exact h i u (by rw[Array.getElem?_toList] at b;exact b)
theorem SlBlk.below{w w':Vz}{v:Value}(h:SlBlk w v)(b:∀g,v.ownBlock=some g->w'.heap[g]?=w.heap[g]?):SlBlk w' v:=fun g a=>by
 obtain⟨C,t,f,c,d⟩:=h g a;exact⟨C,t,f,by rw[b g a];exact c,d⟩
theorem SlBlk.new(w:Vz)(C:Vw)(t:Vr)(n a:Nat)(h:SlIn C):SlBlk (w.drew.alloc (.cells C t)) (.slice (some ⟨w.heap.size,0,none⟩) n a):=fun g b=>by
 have e:w.heap.size=g:=by simpa [Value.ownBlock] using b
 subst e;exact⟨C,t,_,heap_alloc_new w.drew _,h⟩
theorem SlBlk.row{w:Vz}{g n c:Nat}{b a:Vw}{t:Vr}{f:Nat × Nat}(i:w.heap[g]?=some (.cells b t f))(h:SlIn a):SlBlk (w.setRow g a) (.slice (some ⟨g,0,none⟩) n c):=fun j d=>by
 have e:g=j:=by simpa [Value.ownBlock] using d
 subst e;exact⟨a,t,f,setRow_heap w g b _ t _ i,h⟩
theorem Tryz.infoNat:(prog.info? 105).map (fun i=>(i.zero,i.size,i.bytes))=some (some (.slice none 0 0),1,24):=by kernel_rfl
theorem Qxm{w:Vz}{x:Nat}{v I:Value}{n m B:Nat}{xs b:Vv}{a:Addr}{w':Vz}{ty:Vr}{i:TypeInfo}(D:prog.info? 105=some i)(J:i.zero=some (.slice none 0 0))(h:i.size=1)(y:i.bytes=24)(f:w.ownsRow x 105 1 v n xs)(e:SlBlk w v)
 (hl:b.length=m) (d:∀j u,b[j]?=some u->w.cell? (a.add j)=some u) (K:∀u∈ b,u.oneCell'=true) (E:∀u,u∈ b->∃a n c,u=Value.slice a n c) (L:0<m) (M:n+m<=1099511627776)
 (t:(Builtin.append_ #[230,230] ty #[v,.slice (some a) m B]).run prog w=.ok I w'):SlBlk w' I:=by
 have F:xs.length=n:=by simpa using f.1
 have k:=f;have l:b.length=m*i.size:=by rw[h,Nat.mul_one];exact hl
 rcases f.2 with ⟨rfl,rfl⟩|⟨g,o,G,rfl,N,H,O,Q,R,p⟩
 .
  rw[run_append_nil (P:=prog) w 230 ty 105 i (.slice none 0 0) underlying230 D J a m B b l d L (by omega) (by rw[y];omega)] at t;injection t with z A
  rw[<-z,<-A];exact SlBlk.new _ _ _ _ _ ((SlIn.list E).append (SlIn.zeros _))
 .
  obtain⟨C,S,T,hC,q⟩:=e g rfl;rw[H] at hC;injection hC with hC
  injection hC with hC _ _
  subst hC;by_cases r:n+m<=o
  .
   rw[run_append_room (P:=prog) w 230 ty 105 i underlying230 D g n o G H a m B b l d K r (by rw[h];omega)] at t;injection t with z A
   rw[<-z,<-A];refine SlBlk.row H (SlIn.list fun u e=>?_);simp only[List.mem_append] at e;rcases e with (e|e)|e
   . exact q.mem (List.mem_of_mem_take e)
   . exact E u e
   . exact q.mem (List.mem_of_mem_drop e)
  .
   have s:=k.cells (g:=g) rfl;rw[run_append_grow (P:=prog) w 230 ty 105 i (.slice none 0 0) underlying230 D J ⟨g,0,none⟩ n o xs (by rw[h];simpa using F) s a m B b l d (by omega) (by omega) (by rw[y];exact growslice_fits (by omega) (by omega))] at t;injection t with z A
   rw[<-z,<-A];refine SlBlk.new _ _ _ _ _ (((SlIn.list fun u e=>?_).append (SlIn.list E)).append (SlIn.zeros _));rw[<-p] at e;exact q.mem (List.mem_of_mem_take e)
def pw(i:Nat):Nat:=10 ^ (19*2 ^ i)
theorem Qe7(i:Nat):pw (i+1)=pw i*pw i:=by unfold pw;rw[<-Nat.pow_add];congr 1;rw[Nat.pow_succ];omega
theorem Qmu:pw 0=10000000000000000000:=by decide
theorem Qhh(i:Nat):0<pw i:=Nat.pow_pos (by decide)
def Pows(w:Vz)(vs:Vv):Prop:=∀i v,vs[i]?=some v->∃a c l,v=.slice a (List.length l) c/\U64 w a c l (pw i)
theorem Pows.below{w w':Vz}{vs:Vv}(h:Pows w vs)(b:Bl w w'):Pows w' vs:=fun i v d=>by
 obtain⟨a,c,l,e,f⟩:=h i v d;exact⟨a,c,l,e,f.below b⟩
theorem Pows.snoc{w:Vz}{vs:Vv}{a:Vx}{c:Nat}{l:Vy}(h:Pows w vs)(e:U64 w a c l (pw vs.length)):Pows w (vs++ [.slice a l.length c]):=fun i v b=>by
 rw[List.getElem?_append] at b
 split at b
 . exact h i v b
 .
  rename_i f;rw[List.getElem?_singleton] at b
  split at b
  .
   have d:i=vs.length:=by omega
   subst d;injection b with b
   exact⟨a,c,l,b.symm,e⟩
  . cases b
theorem U64.grownSl{w w':Vz}{v:Value}{a:Vx}{c n:Nat}{l:Vy}(h:U64 w a c l n)(j:w.grownBy w' v.ownBlock)(o:SlBlk w v):U64 w' a c l n:=by
 refine⟨⟨h.row.fit,?_,fun i p=>?_⟩,h.num,h.short⟩
 .
  rcases h.row.shape with d|⟨g,b,d,m⟩
  . exact .inl d
  . exact .inr ⟨g,b,d,by have:=j.size;omega⟩
 .
  obtain⟨g,b,d,m,k⟩:=h.row.cell i p;refine⟨g,b,d,by have:=j.size;omega,(World.cell?_of_block (w:=w) (j.block g m ?_)).trans k⟩;intro q;obtain⟨C,t,f,hC,r⟩:=o g q.symm;rw[Lib.cell_of_heap hC] at k;obtain⟨_,_,_,e⟩:=r _ _ k;cases e
theorem Pows.grown{w w':Vz}{v:Value}{vs:Vv}(h:Pows w vs)(b:w.grownBy w' v.ownBlock)(d:SlBlk w v):Pows w' vs:=fun i u f=>by
 obtain⟨a,c,l,e,g⟩:=h i u f;exact⟨a,c,l,e,g.grownSl b d⟩
theorem Qxn(k:Nat):2 ^ (63*k)<=10 ^ (19*k):=by
 rw[Nat.pow_mul,Nat.pow_mul];exact Nat.pow_le_pow_left (by decide) k
theorem Qmv{w:Vz}{a:Vx}{c i:Nat}{l:Vy}(h:U64 w a c l (pw i)):63*2 ^ i<64*l.length:=by
 have b:=Qab (B:=18446744073709551616) (by decide) h.num.small;rw[h.num.eq] at b;have d:2 ^ (63*2 ^ i)<=pw i:=Qxn _;have e:(18446744073709551616:Nat) ^ l.length=2 ^ (64*l.length):=by rw[Nat.pow_mul]
 rw[e] at b;exact(Nat.pow_lt_pow_iff_right (by decide:1<2)).1 (Nat.lt_of_le_of_lt d b)
theorem Qxo(n:Nat):n+1<=2 ^ n:=Nat.lt_two_pow_self
theorem Qxp{w:Vz}{a e:Vx}{c c2 i x:Nat}{l m:Vy}(h:U64 w a c l (pw i))(d:U64 w e c2 m x)(hl:m.length+1<2*l.length):x<pw (i+1):=by
 have f:=Qab (B:=18446744073709551616) (by decide) d.num.small;rw[d.num.eq] at f;have b:=h.num.trim.pow_le (B:=18446744073709551616) (by omega);rw[h.num.eq] at b;have g:=Nat.mul_le_mul b b;rw[<-Nat.pow_add,<-Qe7] at g;have j:(18446744073709551616:Nat) ^ m.length<=18446744073709551616 ^ (l.length - 1+(l.length - 1)):=Nat.pow_le_pow_right (by decide) (by omega);omega
theorem Qxq{n k:Nat}(h:63*2 ^ n<64*k)(hk:k<=549755813890):19*2 ^ (n+1)<=140737488355000:=by
 rw[Nat.pow_succ];omega
def PowAns(w:Vz)(x:Nat)(e:Ending)(w':Vz):Prop:=(∃g n cap,e=.returned (.slice (some ⟨g,0,none⟩) (n+1) cap)/\n+1<=cap/\(∃vs,List.length vs=n+1/\(∀i v,vs[i]?=some v->w'.cell? ⟨g,i,none⟩=some v)/\Pows w' vs)/\g<w'.heap.size/\x<pw (n+1)/\n<=1099511627770/\19*2 ^ (n+1)<=140737488355000)/\Below w.heap.size w w'
theorem Qxr(a:Vx)(M x:Nat)(C:Vy)(w:Vz)(h:U64 w a M C x)(hl:C.length<=274877906944):
 Calls prog 189 #[.slice a C.length M] w (PowAns w x):=by
 obtain⟨i0,hi,N,O,hz2⟩:=info_parts Tryz.infoNat;obtain⟨HX,HI,Q,R,S⟩:=Id h hi N O hz2;clear h hi N O hz2;go_enter func189,ntmps189;go_wp2_with fail;go_loopw [3,4] (fun lv pv wr=>∃(n:Nat) (vs:Vv) (T:Vx) (c1:Nat) (c:Vy),vs.length=n+1/\lv=.slice T c.length c1/\vs[n]?=some lv/\wr.ownsRow w.heap.size 105 1 pv (n+1) vs/\SlBlk wr pv/\Pows wr vs/\U64 wr T c1 c (pw n)/\c.length<=2*C.length+1/\n<=2*C.length/\Below w.heap.size w wr) (fun _ pv _=>2*C.length+2 - sliceLen pv)
 case atStart=>
  have ag:Blk .u64 190 (w.alloc (.cells (wordCells .u64 [10000000000000000000]) 190)) w.heap.size [10000000000000000000]:=Blk.new _ _ _ _;have ah:U64 (w.alloc (.cells (wordCells .u64 [10000000000000000000]) 190)) (some ⟨w.heap.size,0,none⟩) 1 [10000000000000000000] (pw 0):=⟨ag.row 1 (by simp) 1 (by omega),⟨fun d hd=>by simp at hd;omega,.inr (by simp),by rw[Qmu];simp[val]⟩,by simp⟩;have ai:Below (w.alloc (.cells (wordCells .u64 [10000000000000000000]) 190)).heap.size (w.alloc (.cells (wordCells .u64 [10000000000000000000]) 190)) ((w.alloc (.cells (wordCells .u64 [10000000000000000000]) 190)).alloc (.cells #[.slice (some ⟨w.heap.size,0,none⟩) 1 1] 105)):=bR.alloc lZ _;have U:=ah.below ai;refine⟨0,[.slice (some ⟨w.heap.size,0,none⟩) 1 1],some ⟨w.heap.size,0,none⟩,1,[10000000000000000000],rfl,rfl,rfl,?_,?_,?_,U,by simp,by omega,?_⟩
  . exact⟨rfl,.inr ⟨w.heap.size+1,1,#[.slice (some ⟨w.heap.size,0,none⟩) 1 1],rfl,by omega,by have:=heap_alloc_new (w.alloc (.cells (wordCells .u64 [10000000000000000000]) 190)) (.cells #[.slice (some ⟨w.heap.size,0,none⟩) 1 1] 105);rw[World.size_alloc] at this;exact this,by omega,by unfold maxLen;omega,rfl,rfl⟩⟩
  .
   intro g V;have e:w.heap.size+1=g:=by simpa [Value.ownBlock] using V
   subst e;refine⟨#[.slice (some ⟨w.heap.size,0,none⟩) 1 1],105,(0,0),by have:=heap_alloc_new (w.alloc (.cells (wordCells .u64 [10000000000000000000]) 190)) (.cells #[.slice (some ⟨w.heap.size,0,none⟩) 1 1] 105);rw[World.size_alloc] at this;exact this,?_⟩;intro i u q
   match i with
   |0=>simp at q;exact⟨_,_,_,q.symm⟩
   |i+1=>simp at q
  .
   intro i v W
   match i with
   |0=>simp at W;exact⟨_,_,[10000000000000000000],W.symm,U⟩
   |i+1=>simp at W
  . exact(bR.alloc lZ _).alloc (by rw[World.size_alloc];omega) _
 case round=>
  obtain⟨n,vs,T,c1,c,X,rfl,J,r,Y,Z,q,aw,ax,hb⟩:=hrel;have aa:=Qf8 r;have aj:=Qmv q;have ak:=Qxo n;obtain⟨s,f,al,ab,L,HB⟩:=Ie X r Y Z q hb;have av:=hb.size;have ay:1<=c.length:=by omega
  have D:63*(n+1)<64*c.length:=by omega
  clear X J r Y Z q hb aj ak;by_cases hc:2*c.length<=C.length+1
  .
   have q1:(2*(c.length:Int) - 1<=(C.length:Int)):=by omega
   have HM:=Hi (Qkr T T c1 c1 c c (pw n) (pw n) wr L.o L.o (by omega));go_wp2_with fail;go_fit HM.o;rintro e E ⟨⟨F,c2,A,rfl,G⟩,K⟩;rw[<-Qe7] at G;have az:A.length<=2*c.length:=G.num.length_le_of_lt (by decide) (by
    rw[Qe7,show 2*c.length=c.length+c.length by omega,Nat.pow_add];have h1:=Qab (B:=18446744073709551616) (by decide) L.o.num.small;rw[L.o.num.eq] at h1
    exact Nat.mul_lt_mul'' h1 h1)
   have am:=K.size;obtain⟨an,H⟩:=Ia G K;clear HM G K;have t:Bl E (E.alloc (.cells #[.slice F A.length c2] 105)):=bR.alloc lZ _;have l:=Qbn (Qbn f.o H.o) t;have p:=(al.o.below fun g V=>H.o.block g (f.o.lt g V).2).below fun g V=>t.block g (by have:=(f.o.lt g V).2;omega)
   have D:∀j u,[Value.slice F A.length c2][j]?=some u->(E.alloc (.cells #[.slice F A.length c2] 105)).cell? ((⟨E.heap.size,0,none⟩:Addr).add j)=some u:=World.news_of_block (heap_alloc_new E _);have y:∀u∈ [Value.slice F A.length c2],u.oneCell'=true:=fun u q=>by rw[List.mem_singleton.1 q];rfl
   obtain⟨v',w3,hr,z,b,_,ao⟩:=run_append_own_at (P:=prog) (E.alloc (.cells #[.slice F A.length c2] 105)) w.heap.size 230 230 105 i0 (.slice none 0 0) 1 24 underlying230 HI.o Q.o R.o S.o rfl (by decide) u4 (n+1) vs l ⟨E.heap.size,0,none⟩ 1 1 [.slice F A.length c2] rfl D y (by unfold maxLen;omega) (by omega) (by rw[World.size_alloc];omega);obtain⟨ap,ad,aq,ae,ar,HR⟩:=Ie (Qxm (m:=1) HI.o Q.o R.o S.o l p rfl D y (fun u q=>⟨_,_,_,List.mem_singleton.1 q⟩) (by decide) (by omega) hr) ((an.o.below t).grownSl b p) (((ab.o.below H.o).below t).grown b p) z (((HB.o.trans (H.o.mono (by omega))).alloc (by omega) (.cells #[.slice F A.length c2] 105)).grown b (by rw[World.size_alloc];omega) (fun k hk=>(f.o.lt k hk).1)) hr
   clear t l p D y hr z b ao;go_wp2_with (at_builtin;refine Qb7 _ rfl _ _ 230 230 rfl u4 (.slice (some ⟨E.heap.size,0,none⟩) 1 1) _ _ rfl rfl HR.o ?_);clear HR;go_wp2;go_roundw
   case rel=>
    refine⟨n+1,vs++ [.slice F A.length c2],F,c2,A,by rw[List.length_append,s.o];rfl,rfl,?_,ae.o,ap.o,aq.o.snoc (by rw[s.o];exact ad.o),ad.o,by omega,by omega,ar.o⟩;rw[List.getElem?_append_right (by rw[s.o];omega),s.o,Nat.sub_self];rfl
   case measure=>
    rw[aa];have:=Qf8 ae.o;simp only[sliceLen] at this ⊢;simp at this ⊢;omega
  .
   have q1:¬(2*(c.length:Int) - 1<=(C.length:Int)):=by omega
   obtain⟨g,af,rfl,a0,au⟩:=f.o.form (by omega);go_wp2;go_ret;have I:=f.o.cells (g:=g) rfl;refine⟨⟨g,n,af,rfl,?_,⟨vs,s.o,fun i v W=>?_,ab.o⟩,au,Qxp L.o (HX.o.below HB.o) (by omega),by omega,Qxq (Qmv L.o) (by omega)⟩,HB.o⟩
   .
    rcases f.o.2 with ⟨h,_⟩|⟨g',cap',a3,he,_,_,hf,_⟩
    . cases h
    . injection he with _ _ h3
      omega
   .
    have:=I i v W;rw[Lib.add_plain,Nat.zero_add] at this;exact this
def Pw(w:Vz)(g n:Nat):Prop:=∀i,i<n->∃a c l,w.cell? ⟨g,i,none⟩=some (.slice a (List.length l) c)/\U64 w a c l (pw i)
theorem Pw.below{w w':Vz}{g n:Nat}(h:Pw w g n)(b:Bl w w'):Pw w' g n:=fun i e=>by
 obtain⟨a,c,l,d,f⟩:=h i e;exact⟨a,c,l,ce b (World.block_lt_of_cell? _ _ d) d,f.below b⟩
theorem Pw.wrote{B b:Nat}{l:Vu}{w w':Vz}{g n:Nat}(h:Pw w g n)(e:Bd8 B b l w)(k:Wr b w w'):Pw w' g n:=fun i f=>by
 obtain⟨a,c,j,m,o⟩:=h i f;obtain⟨r,s,t,d,_⟩:=h 0 (by omega);obtain⟨p,q⟩:=e.slice_apart d;exact⟨a,c,j,(World.cell?_of_block (w:=w) (a:=⟨g,i,none⟩) (k.block g (World.block_lt_of_cell? _ _ d) p q)).trans m,o.wrote e k⟩
theorem Pw.less{w:Vz}{g n m:Nat}(h:Pw w g n)(a:m<=n):Pw w g m:=fun i b=>h i (by omega)
theorem Qxe{w:Vz}{a:Vx}{c x:Nat}{l:Vy}(h:U64 w a c l x)(b:x<10000000000000000000):l.getD 0 0=x:=by
 have hl:=h.num.length_le_of_lt (by decide) (by rw[Nat.pow_one];omega);rw[<-h.num.eq]
 match l,hl with
 | [],_=>rfl
 | [d],_=>simp[val]
theorem Qxf(w0:Vz)(b g:Nat)(hT:Tab w0)(n:Nat):∀(j:Nat) (i:Bool) (l:Vu) (a:Vx) (c x:Nat) (P:Vy) (w:Vz),Below w0.heap.size w0 w->Bd8 w0.heap.size b l w->U64 w a c P x->Pw w g n->n<=j->x<pw n->P.length<=274877906944->n<=1099511627776->l.length+19*2 ^ n<=140737488355328->
 Calls prog 188 #[.pointer (some ⟨b,0,none⟩),.slice a P.length c,.slice (some ⟨g,0,none⟩) n j,.bool i] w (Digs w0.heap.size b l i (19*2 ^ n) x w):=by
 induction n with
 |zero=>
  intro j i l a c x P w Y hd M hp ah Z ai hn hl;rw[Qmu] at Z;have S:=Hi (Qb3 a c P 0 w M.row M.short (by decide));rw[Qxe M Z] at S;have aa:=Hi (Qxd w0 w b l x i hT Y hd Z (by simpa using hl));clear Y hd M hp;go_enter func188,ntmps188;go_wp2_with fail;go_fit S.o;rintro e w1 ⟨rfl,hw⟩;subst hw;clear S;go_wp2_with fail;go_fit aa.o;rintro e w2 ⟨m,A,rfl,k,f,d⟩;obtain⟨HO,aj,C,D⟩:=Ic A k f d;clear aa A k f d;go_wp2;go_end0;exact⟨m,by simpa using HO.o,rfl,aj.o,C.o,D.o⟩
 |succ n ih=>
  intro j i l a c x P w Y hd M hp ah Z ai hn hl;obtain⟨ap,cp,lp,ak,ab⟩:=hp n (by omega);obtain⟨ad,HB,HD,HP,E⟩:=Id (Qkn a ap c cp P lp x (pw n) w M ab (Qhh n) (by omega)) Y hd hp ih;have ae:x / pw n<pw n:=by rw[Nat.div_lt_iff_lt_mul (Qhh n)];rw[Qe7] at Z;exact Z
  have T:x % pw n<pw n:=Nat.mod_lt _ (Qhh n);have Q:∀(w':Vz) (a':Vx) (c' y:Nat) (l':Vy),U64 w' a' c' l' y->y<=x->l'.length<=P.length:=fun w' a' c' y l' h' hy=>h'.num.length_le_of_lt (by decide) (Nat.lt_of_le_of_lt hy (by have:=Qab (B:=18446744073709551616) (by decide) M.num.small;rw[M.num.eq] at this;exact this))
  obtain⟨R,HX⟩:=Ia Q (Nat.div_add_mod x (pw n));have h2:19*2 ^ (n+1)=2*(19*2 ^ n):=by rw[Nat.pow_succ];omega
  have af:=Hi (show pw n=10 ^ (19*2 ^ n) from rfl);have n1:((n+1:Nat):Int) - 1=(n:Int):=by omega
  have n2:((n:Int)+1) - 1=(n:Int):=by omega
  have n0:(((n+1:Nat):Int) == 0)=false:=by rw[beq_eq_false_iff_ne];omega
  have N:=Y.size;clear Y hd M hp ab ih Q;go_enter func188,ntmps188;go_wp2_with fail;go_fit ad.o;rintro e w1 ⟨⟨aq,cq,lq,ar,cr,lr,rfl,hq,hr⟩,u⟩;have hz:=hq.num.len_zero (by decide);obtain⟨ag,U,HQ,HR,V,v,F,W,G⟩:=Ih (R.o _ _ _ _ _ hq (Nat.div_le_self _ _)) (R.o _ _ _ _ _ hr (Nat.mod_le _ _)) hq hr u (HD.o.below u) (HP.o.below u) (Wr.below HD.o.lt u) (HB.o.trans (u.mono N));have am:=u.size;clear ad hq hr u;cases i with
  |true=>
   have H:=Hi (E.o j true l aq cq (x / pw n) lq w1 G.o v.o HQ.o (F.o.less (by omega)) (by omega) ae (by have:=ag.o;omega) (by omega) (by omega));clear hz;go_wp2_with fail;go_fit H.o;rintro e w2 ⟨m1,z,rfl,k,f,d⟩;obtain⟨X,p,C,D⟩:=Ic z (E.o j true (l++m1) ar cr (x % pw n) lr w2 (G.o.trans f) k (HR.o.wrote v.o d) ((F.o.wrote v.o d).less (by omega)) (by omega) T (by have:=U.o;omega) (by omega) (by rw[List.length_append];have:=z.most;omega)) f d;clear H z k f d;go_wp2_with fail;go_fit p.o;rintro e w3 ⟨m2,q,rfl,r,s,t⟩;obtain⟨I,J,K,L⟩:=Ic q r s t;clear p q r s t;go_wp2;go_end0;have A:=Qmt X.o I.o (.inl rfl);rw[<-af.o,Nat.mul_comm (x / pw n),HX.o,<-h2] at A
   exact⟨m1++m2,A,rfl,by rw[<-List.append_assoc];exact J.o,(V.o.mono N).trans (C.o.trans K.o),W.o.trans (D.o.trans L.o)⟩
  |false=>
   by_cases an:0<lq.length
   .
    have q1:((0:Int)<(lq.length:Int)):=by omega
    have HF:O (0<x / pw n):=Hi (by
     rcases Nat.eq_zero_or_pos (x / pw n) with h|h
     . have:=hz.1 h;omega
     . exact h)
    have H:=Hi (E.o j false l aq cq (x / pw n) lq w1 G.o v.o HQ.o (F.o.less (by omega)) (by omega) ae (by have:=ag.o;omega) (by omega) (by omega));clear hz;go_wp2_with fail;go_fit H.o;rintro e w2 ⟨m1,z,rfl,k,f,d⟩;obtain⟨X,p,C,D⟩:=Ic z (E.o j true (l++m1) ar cr (x % pw n) lr w2 (G.o.trans f) k (HR.o.wrote v.o d) ((F.o.wrote v.o d).less (by omega)) (by omega) T (by have:=U.o;omega) (by omega) (by rw[List.length_append];have:=z.most;omega)) f d;clear H z k f d;go_wp2_with fail;go_fit p.o;rintro e w3 ⟨m2,q,rfl,r,s,t⟩;obtain⟨I,J,K,L⟩:=Ic q r s t;clear p q r s t;go_wp2;go_end0;have A:=Qmt X.o I.o (.inr HF.o);rw[<-af.o,Nat.mul_comm (x / pw n),HX.o,<-h2] at A
    exact⟨m1++m2,A,rfl,by rw[<-List.append_assoc];exact J.o,(V.o.mono N).trans (C.o.trans K.o),W.o.trans (D.o.trans L.o)⟩
   .
    have q1:¬((0:Int)<(lq.length:Int)):=by omega
    have al:x % pw n=x:=by
     have h1:=HX.o;rw[hz.2 (by omega),Nat.mul_zero,Nat.zero_add] at h1;exact h1
    have p:=Hi (E.o j false l ar cr (x % pw n) lr w1 G.o v.o HR.o (F.o.less (by omega)) (by omega) T (by have:=U.o;omega) (by omega) (by omega));clear hz;go_wp2_with fail;go_fit p.o;rintro e w3 ⟨m2,q,rfl,r,s,t⟩;obtain⟨I,J,K,L⟩:=Ic q r s t;clear p q r s t;go_wp2;go_end0;have A:=I.o;rw[al] at A;exact⟨m2,A.grow (by omega),rfl,J.o,(V.o.mono N).trans K.o,W.o.trans L.o⟩
def TextAns(x:Nat)(w:Vz)(e:Ending)(w':Vz):Prop:=(∃s:Vs,e=.returned (.string s)/\IsDec s.data.toList x/\s.size<=140737488355328)/\Below w.heap.size w w'
theorem Qxg(a:Vx)(c x:Nat)(l:Vy)(w:Vz)(T:Tab w)(h:U64 w a c l x)(hl:l.length<=274877906944):
 Calls prog 130 #[.slice a l.length c] w (TextAns x w):=by
 obtain⟨F,j⟩:=nm (w.alloc (.cells #[.pointer none,.slice none 0 0] 228));have d:Bl w F:=by rw[<-j];exact(Below.refl _ _).alloc lZ _
 have k:F.heap[w.heap.size]?=some (.cells #[.pointer none,.slice none 0 0] 228 (0,0)):=by rw[<-j];exact heap_alloc_new w _
 have p:Bd8 w.heap.size w.heap.size [] F:=⟨.inl ⟨Nat.le_refl _,.slice none 0 0,k,World.ownsRow_nil _ _ _ _,by simp[Value.ownBlock]⟩,fun v q=>by
  rw[Lib.cell_of_heap k] at q;have:v=.slice none 0 0:=by simpa using q.symm
  subst this;intro g X
  simp[Value.ownBlock] at X⟩
 obtain⟨r,Y,Z,s,G,HT⟩:=Ie (Qxr a c x l F (h.below d) hl) (h.below d) p d j T;have t:=d.size;clear T h d k p j;go_enter func130,ntmps130;go_wp2_with fail;rw[G.o];go_fit r.o;rintro e U ⟨⟨g,n,H,rfl,I,⟨vs,J,u,f⟩,K,V,aa,L⟩,b⟩;have y:Pw U g (n+1):=fun i hi=>by
  obtain⟨v,q⟩:∃v,vs[i]?=some v:=⟨vs[i]'(by omega),gE (by omega)⟩;obtain⟨a',c',l',e',M⟩:=f i v q;exact⟨a',c',l',by rw[u i v q,e'],M⟩
 obtain⟨z,N⟩:=Ia (Qxf w w.heap.size g HT.o (n+1) H false [] a c x l U (s.o.trans (b.mono t)) (Z.o.below b) (Y.o.below b) y I V hl (by omega) (by rw[List.length_nil];omega)) (s.o.trans (b.mono t));have W:=b.size;clear r y J u f K V b;go_wp2_with fail;go_fit z.o;rintro e w2 ⟨m,O,rfl,A,B,C⟩;obtain⟨D,P,Q,R⟩:=Ic (Qxa w.heap.size w.heap.size m w2 (by have:=A.bd;rwa [List.nil_append] at this) (by have:=C.size;omega)) O.dec O.most (N.o.trans B);clear z O A B C;go_wp2_with fail;go_fit D.o;rintro e w3 ⟨rfl,E⟩;have S:=Hi (R.o.trans E);clear D E;go_wp2;go_ret;refine⟨⟨_,rfl,P.o,?_⟩,S.o⟩;have h1:=Q.o;rw[<-Qah]
 show m.length<=_
 omega
def QAns(q:Rat)(w:Vz)(e:Ending)(w':Vz):Prop:=(∃s:Vs,e=.returned (.string s)/\QText s.data.toList q)/\Below w.heap.size w w'
theorem Qc1(s t:Vs):(s++t).data.toList=s.data.toList++t.data.toList:=by simp[ByteArray.data_append]
theorem Qpd(w:Vz)(d:Nat)(a:Vx)(n c:Nat):(Op.equalIn (d+1) 105 (.slice a n c) (.slice none 0 0)).run prog w=.ok a.isNone w:=by
 cases a<;>simp[Op.equalIn,run_underlying underlying105]
theorem Qpe(w:Vz)(a:Vx)(n c:Nat):(Op.equal 105 (.slice a n c) (.slice none 0 0)).run prog w=.ok a.isNone w:=Qpd w 9999 a n c
theorem Qpf(w:Vz)(a:Vx)(n c:Nat):(binOp .neq 105 (.slice a n c) (.slice none 0 0)).run prog w=.ok (.bool a.isSome) w:=by
 cases a<;>simp[binOp,Qpe]
theorem Qf1{a:Vx}{n c x K:Nat}{w:Vz}(b:Tab w)(h:NumV w a n c x)(d:x<2 ^ K)(e:K<=274877906944):Calls prog 130 #[.slice a n c] w (TextAns x w):=by
 obtain⟨l,rfl,h⟩:=h;exact Qxg a c x l w b h (Nat.le_trans (h.len_bits d) e)
theorem num_Q(neg:Bool)(a b:Vx)(n c m d K:Nat)(q:Rat)(w:Vz)(H:Tab w)(h:FracAt w neg a n c b m d q)(I:Fits q K)(J:K<=274877906944):
 Calls prog 67 #[.agg #[.bool neg,.slice a n c,.slice b m d]] w (QAns q w):=by
 have Y:=Qpf;obtain⟨Q,s⟩:=nm (w.alloc (.cells #[.bool neg,.slice a n c,.slice b m d] 107));have g:Bl w Q:=by rw[<-s];exact(Below.refl _ _).alloc lZ _
 have x:SB Q w.heap.size 107 #[.bool neg,.slice a n c,.slice b m d]:=by rw[<-s];exact SB.new w _ _
 obtain⟨y,z,A,B,R,t,L,M⟩:=Ig (Qf1 (H.below g) (h.top.below g) I.1 J) (h.low.below g) (H.below g) h.neg I x g s;have N:=g.size;clear H h I g x s;go_enter func67,ntmps67;obtain⟨-,k1,-⟩:=zc t.o;go_wp2_with fail;rw[M.o];go_fit y.o;rintro e Z ⟨⟨G,rfl,C,T⟩,i⟩;obtain⟨D,j,E,F⟩:=Ic C (L.o.trans (i.mono N)) (z.o.below i) (A.o.below i);obtain⟨g0,-,g2,-⟩:=zc (t.o.below i t.o.lt);have S:=i.size;clear y C i k1 z A;cases neg with
 |true=>
  have k:O (IntText ((⟨#[45]⟩:ByteArray)++G).data.toList q.num):=Hi ⟨G.data.toList,D.o,by rw[if_pos (of_decide_eq_true B.o.symm),Qc1];rfl⟩;rcases E.o with ⟨rfl,rfl,rfl,f⟩|⟨f,hl⟩
  .
   go_wp2;go_ret;exact⟨⟨_,rfl,_,k.o,.inl ⟨f,rfl⟩⟩,j.o⟩
  .
   obtain⟨U,V,rfl⟩:=hl.some (by omega);have l:=Hi (Qf1 F.o hl R.o.2 J);clear hl;go_wp2_with fail;go_fit l.o;rintro e W ⟨⟨X,rfl,p,P⟩,r⟩;obtain⟨u,v⟩:=Ia p (j.o.trans (r.mono j.o.size));clear l p r;go_wp2;go_ret;exact⟨⟨_,rfl,_,k.o,.inr ⟨by omega,_,u.o,by rw[Qc1,Qc1];rfl⟩⟩,v.o⟩
 |false=>
  have k:O (IntText G.data.toList q.num):=Hi ⟨G.data.toList,D.o,by rw[if_neg (of_decide_eq_false B.o.symm)]⟩;rcases E.o with ⟨rfl,rfl,rfl,f⟩|⟨f,hl⟩
  .
   go_wp2;go_ret;exact⟨⟨_,rfl,_,k.o,.inl ⟨f,rfl⟩⟩,j.o⟩
  .
   obtain⟨U,V,rfl⟩:=hl.some (by omega);have l:=Hi (Qf1 F.o hl R.o.2 J);clear hl;go_wp2_with fail;go_fit l.o;rintro e W ⟨⟨X,rfl,p,P⟩,r⟩;obtain⟨u,v⟩:=Ia p (j.o.trans (r.mono j.o.size));clear l p r;go_wp2;go_ret;exact⟨⟨_,rfl,_,k.o,.inr ⟨by omega,_,u.o,by rw[Qc1,Qc1];rfl⟩⟩,v.o⟩
theorem Qd5{v:Value}{K:Nat}{q:Rat}{w:Vz}(e:Tab w)(h:FracV w v q)(f:Fits q K)(g:K<=274877906944):Calls prog 67 #[v] w (QAns q w):=by
 obtain⟨neg,a,n,c,b,m,d,rfl,h⟩:=h;exact num_Q neg a b n c m d K q w e h f g
theorem Qil(A B:Vx)(c1 c2:Nat)(l m:Vy)(w:Vz)(d:Row .u64 w A c1 l)(C:Row .u64 w B c2 m)(hl:l.length<=1099511627776)(Q:m.length<=1099511627776):
 Calls prog 240 #[.slice A l.length c1,.slice B m.length c2] w fun e w'=>e=.returned (.bool (decide (l=m)))/\Below w.heap.size w w':=by
 obtain⟨I,J⟩:=Ia d C;clear d C;by_cases a:l.length=m.length
 .
  have K:((l.length:Int) != (m.length:Int))=false:=by simp[a]
  have L:((l.length:Int) == (m.length:Int))=true:=by simp[a]
  go_enter func240,ntmps240;go_wp2;go_loopw [13] (fun n wr=>∃k:Nat,k<=l.length/\n=.int .i64 k/\l.take k=m.take k/\Below w.heap.size w wr) (fun n _=>l.length - (RowKit.intOf n).toNat)
  case atStart=>exact⟨0,by omega,rfl,by simp,Below.refl _ _⟩
  case round=>
   obtain⟨k,hk,rfl,D,E⟩:=hrel;obtain⟨F,f⟩:=Ia D E;clear D E;by_cases b:k<l.length
   .
    obtain⟨R,S,rfl,M,p⟩:=(I.o.below f.o).cell k b;obtain⟨T,U,rfl,N,q⟩:=(J.o.below f.o).cell k (by omega);obtain⟨x,i⟩:=nm (l.getD k 0);obtain⟨y,j⟩:=nm (m.getD k 0);rw[i] at p;rw[j] at q;obtain⟨r,s⟩:=Ia i j;have G:l.take (k+1)=l.take k++ [x]:=by rw[List.take_succ_eq_append_getElem b,<-i,List.getD_eq_getElem?_getD,gE b];rfl
    have H:m.take (k+1)=m.take k++ [y]:=by rw[List.take_succ_eq_append_getElem (by omega),<-j,List.getD_eq_getElem?_getD,gE (by omega)];rfl
    obtain⟨t,u⟩:=Ia G H;clear i j G H;by_cases g:x=y
    .
     subst g;have P:((x:Int) == (x:Int))=true:=by simp
     go_wp2_with fail;go_region
     all_goals
      go_wp2;go_roundw
      case rel=>exact⟨k+1,by omega,by go_num,by rw[t.o,u.o,F.o],f.o.drew⟩
      case measure=>simp[RowKit.intOf];omega
    .
     have P:((x:Int) == (y:Int))=false:=by rw[beq_eq_false_iff_ne];omega
     have V:((x:Int) != (y:Int))=true:=by rw[bne_iff_ne];omega
     have c:O (decide (l=m)=false):=Hi (decide_eq_false (fun h=>by
      have d:=r.o;rw[h,s.o] at d
      exact g d.symm))
     go_wp2_with fail;go_region
     all_goals
      go_wp2;go_ret;exact⟨by rw[c.o];rfl,f.o.drew⟩
   .
    have v:k=l.length:=by omega
    subst v;have z:=Hi (decide_eq_true (by have:=F.o;rwa [List.take_length,List.take_of_length_le (by omega)] at this));go_wp2;go_ret;exact⟨by rw[z.o];rfl,f.o⟩
 .
  have K:((l.length:Int) != (m.length:Int))=true:=by rw[bne_iff_ne];omega
  have L:((l.length:Int) == (m.length:Int))=false:=by rw[beq_eq_false_iff_ne];omega
  have c:O (decide (l=m)=false):=Hi (decide_eq_false (fun h=>a (by rw[h])));go_enter func240,ntmps240;go_wp2;go_ret;exact⟨by rw[c.o];rfl,Below.refl _ _⟩
theorem Low.row{w:Vz}{b:Vx}{m d k:Nat}(h:Low w b m d k):∃L:Vy,L.length=m/\Row .u64 w b d L/\L.length<=1099511627776/\((L= []/\k=1)∨(1<k/\Num 18446744073709551616 L k)):=by
 rcases h with ⟨rfl,rfl,rfl,rfl⟩|⟨h,l,hl,a⟩
 . exact⟨[],rfl,Row.nil _ _,by simp,.inl ⟨rfl,rfl⟩⟩
 . exact⟨l,hl,a.row,a.short,.inr ⟨h,a.num⟩⟩
theorem Qim{L M:Vy}{j k:Nat}(b:(L= []/\j=1)∨(1<j/\Num 18446744073709551616 L j))(c:(M= []/\k=1)∨(1<k/\Num 18446744073709551616 M k)):L=M↔j=k:=by
 rcases b with ⟨rfl,rfl⟩|⟨d,n1⟩<;>rcases c with ⟨rfl,rfl⟩|⟨e,a⟩
 . simp
 .
  constructor
  . rintro rfl;have:=a.eq;simp[val] at this;omega
  . intro h;omega
 .
  constructor
  . rintro rfl;have:=n1.eq;simp[val] at this;omega
  . intro h;omega
 .
  constructor
  . rintro rfl;rw[<-n1.eq,<-a.eq]
  . rintro rfl;exact n1.inj (by decide) a
theorem Qpg(p q:Rat):p=q↔(decide (p.num<0)=decide (q.num<0)/\p.num.natAbs=q.num.natAbs/\p.den=q.den):=by
 constructor
 . rintro rfl;exact⟨rfl,rfl,rfl⟩
 .
  rintro⟨a,b,c⟩;refine Rat.ext ?_ c;rw[<-Qby p.num,<-Qby q.num,a,b]
theorem Qph(x y:Bool)(A bx B C:Vx)(lx D mx E ly F my G:Nat)(p q:Rat)(w:Vz)(P:FracAt w x A lx D bx mx E p)(Q:FracAt w y B ly F C my G q):
 Calls prog 210 #[.agg #[.bool x,.slice A lx D,.slice bx mx E],.agg #[.bool y,.slice B ly F,.slice C my G]] w fun e w'=>e=.returned (.bool (decide (p=q)))/\Below w.heap.size w w':=by
 obtain⟨R,rfl,z⟩:=P.top;obtain⟨S,rfl,H⟩:=Q.top;obtain⟨T,rfl,I,l,d⟩:=P.low.row;obtain⟨U,rfl,J,m,f⟩:=Q.low.row;have hT:decide (R=S)=decide (p.num.natAbs=q.num.natAbs):=by
  by_cases h:p.num.natAbs=q.num.natAbs
  . rw[decide_eq_true h];rw[h] at z;exact decide_eq_true (z.num.inj (by decide) H.num)
  . rw[decide_eq_false h];exact decide_eq_false (fun Z=>h (by rw[<-z.num.eq,<-H.num.eq,Z]))
 have hL:decide (T=U)=decide (p.den=q.den):=by
  by_cases h:p.den=q.den
  . rw[decide_eq_true h];exact decide_eq_true ((Qim d f).2 h)
  . rw[decide_eq_false h];exact decide_eq_false (fun Z=>h ((Qim d f).1 Z))
 have n:=Qpg p q;rw[<-P.neg,<-Q.neg] at n;obtain⟨V,g⟩:=nm ((w.alloc (.cells #[.bool x,.slice A R.length D,.slice bx T.length E] 107)).alloc (.cells #[.bool y,.slice B S.length F,.slice C U.length G] 107));have c:Bl w V:=by rw[<-g];exact Below.new2 w _ _
 have r:SB V (w.heap.size+1) 107 #[.bool y,.slice B S.length F,.slice C U.length G]:=by rw[<-g];exact SB.new2 w _ _ _ _
 have s:SB V w.heap.size 107 #[.bool x,.slice A R.length D,.slice bx T.length E]:=by rw[<-g];exact(SB.new w _ _).alloc _
 obtain⟨a,i⟩:=Ia (Qil A B D F R S V (z.row.below c) (H.row.below c) z.short H.short) (fun W hb=>Qil bx C E G T U W ((I.below c).below hb) ((J.below c).below hb) l m);rw[hT] at a;rw[hL] at i;obtain⟨x0,x1,-⟩:=zc s;obtain⟨y0,y1,-⟩:=zc r;obtain⟨K,L,t,u,j⟩:=Id s r c g n;have M:=c.size;clear P Q z H I l d J m f hT hL n c s r g;by_cases hn:x=y
 .
  subst hn;by_cases X:p.num.natAbs=q.num.natAbs
  .
   rw[decide_eq_true X] at a;go_enter func210,ntmps210;go_wp2_with fail;rw[u.o];go_fit a.o;rintro e W ⟨rfl,b⟩;have N:=Hi (i.o W b);obtain⟨-,-,x2,-⟩:=zc (K.o.below b K.o.lt);obtain⟨-,-,y2,-⟩:=zc (L.o.below b L.o.lt);have k:=Hi (t.o.trans (b.mono M));clear a i b;go_wp2_with fail;go_fit N.o;rintro e w2 ⟨rfl,O⟩;have aa:=Hi (k.o.trans (O.mono k.o.size));clear N O;go_wp2;go_ret;refine⟨?_,aa.o⟩;by_cases Y:p.den=q.den
   . rw[decide_eq_true Y,decide_eq_true (j.o.2 ⟨by trivial,X,Y⟩)];rfl
   . rw[decide_eq_false Y,decide_eq_false (fun h=>Y (j.o.1 h).2.2)];rfl
  .
   rw[decide_eq_false X] at a;have v:=Hi (decide_eq_false (fun h=>X (j.o.1 h).2.1));go_enter func210,ntmps210;go_wp2_with fail;rw[u.o];go_fit a.o;rintro e W ⟨rfl,b⟩;have k:=Hi (t.o.trans (b.mono M));clear a i b;go_wp2;go_ret;exact⟨by rw[v.o];rfl,k.o⟩
 .
  have q0:(x == y)=false:=by simpa using hn
  have v:=Hi (decide_eq_false (fun h=>hn (j.o.1 h).1));clear a i;go_enter func210,ntmps210;go_wp2;go_ret;exact⟨by rw[v.o];rfl,by rw[u.o];exact t.o⟩
theorem Qpi{c d:Value}{p q:Rat}{w:Vz}(a:FracV w c p)(b:FracV w d q):Calls prog 210 #[c,d] w fun e w'=>e=.returned (.bool (decide (p=q)))/\Below w.heap.size w w':=by
 obtain⟨f,g,h,i,bx,j,k,rfl,a⟩:=a;obtain⟨l,m,n,o,r,s,t,rfl,b⟩:=b;exact Qph f l g bx m r h i j k n o s t p q w a b
def hasTen:Prop:=(prog.globalNamed "internal/strconv.uint64pow10").isSome=true
structure Glob (w:Vz):Prop where
 most:∃m,w.cell? ⟨4,0,none⟩=some (.int .i64 m)
 tab:hasTen->Tab w
theorem Glob.below{w w':Vz}(h:Glob w)(a:Bl w w'):Glob w':=by
 obtain⟨m,b⟩:=h.most;exact⟨⟨m,ce a (World.block_lt_of_cell? _ _ b) b⟩,fun c=>(h.tab c).below a⟩
structure FE where
 x:Value
 y:Value
 z:Value
 q:Rat
 k:Nat
structure FBag (w0 w:Vz) (L:List FE):Prop where
 base:Bl w0 w
 glob:Glob w0
 ts:∀t,t∈ L->FracV w (.agg #[t.x,t.y,t.z]) t.q/\Fits t.q t.k/\0<t.k
theorem FBag.start{w:Vz}(h:Glob w):FBag w w []:=⟨Below.refl _ _,h,fun t a=>by cases a⟩
theorem FBag.below{w0 w w':Vz}{L:List FE}(h:FBag w0 w L)(a:Bl w w'):FBag w0 w' L:=
 ⟨h.base.trans (a.mono h.base.size),h.glob,fun t b=>⟨(h.ts t b).1.below a,(h.ts t b).2⟩⟩
theorem FBag.drew{w0 w:Vz}{L:List FE}(h:FBag w0 w L):FBag w0 w.drew L:=h.below bR.drew
theorem FBag.globNow{w0 w:Vz}{L:List FE}(h:FBag w0 w L):Glob w:=h.glob.below h.base
theorem FBag.get{w0 w:Vz}{L:List FE}{x y z:Value}{q:Rat}{k:Nat}(h:FBag w0 w L)(a:⟨x,y,z,q,k⟩∈ L):FracV w (.agg #[x,y,z]) q/\Fits q k/\0<k:=h.ts _ a
theorem FBag.put{w0 w:Vz}{L:List FE}{x y z:Value}{q:Rat}{k:Nat}(h:FBag w0 w L)(b:FracV w (.agg #[x,y,z]) q)(c:Fits q k)(hk:0<k):FBag w0 w (⟨x,y,z,q,k⟩ :: L):=
 ⟨h.base,h.glob,fun t a=>by
   rcases List.mem_cons.1 a with rfl|a
   . exact⟨b,c,hk⟩
   . exact h.ts t a⟩
theorem FBag.only{w0 w w':Vz}{L:List FE}{g:Nat}{t:Vr}{C:Vw}(h:FBag w0 w L)(a:Only g w w')(c:SB w g t C)(d:NoU64 C)(e:w0.heap.size<=g):FBag w0 w' L:=
 ⟨Only.fresh h.base a e,h.glob,fun t b=>⟨(h.ts t b).1.only a c d,(h.ts t b).2⟩⟩
theorem FBag.from{w0 b w:Vz}{L M:List FE}(h:FBag b w L)(c:Bl w0 b)(d:Glob w0)(e:∀t,t∈ M->∃k,⟨t.x,t.y,t.z,t.q,k⟩∈ L/\k<=t.k):FBag w0 w M:=by
 refine⟨c.trans (h.base.mono c.size),d,fun t f=>?_⟩;obtain⟨k,hk,a⟩:=e t f;have:=h.ts _ hk;exact⟨this.1,this.2.1.mono a,Nat.lt_of_lt_of_le this.2.2 a⟩
def FNewB(w0:Vz)(L:List FE)(q:Rat)(k:Nat)(e:Ending)(w':Vz):Prop:=∃x y z,e=.returned (.agg #[x,y,z])/\FBag w0 w' (⟨x,y,z,q,k⟩ :: L)
theorem FBag.new{w0 w w':Vz}{L:List FE}{q:Rat}{k:Nat}{e:Ending}(h:FBag w0 w L)(f:FNew w q e w')(g:Fits q k)(hk:0<k):FNewB w0 L q k e w':=by
 obtain⟨⟨v,rfl,neg,a,n,c,b,m,d,rfl,i⟩,j⟩:=f;exact⟨_,_,_,rfl,(h.below j).put ⟨neg,a,n,c,b,m,d,rfl,i⟩ g hk⟩
theorem FBag.minus{w0 w:Vz}{L:List FE}{x1 x2 x3 y1 y2 y3:Value}{j k:Nat}{p q:Rat}(h:FBag w0 w L)(a:⟨x1,x2,x3,p,j⟩∈ L)(b:⟨y1,y2,y3,q,k⟩∈ L)(f:j+k<68719476000):
 Calls prog 57 #[.agg #[x1,x2,x3],.agg #[y1,y2,y3]] w (FNewB w0 L (p - q) (j+k+1)):=by
 obtain⟨a,c,i⟩:=h.get a;obtain⟨b,d,l⟩:=h.get b;exact(Qa9 a b c d f).mono fun e w' g=>h.new g (c.sub d) (by omega)
theorem Fits.div{p q:Rat}{j k:Nat}(h:Fits p j)(b:Fits q k)(c:0<j)(hk:0<k):Fits (p / q) (j+k):=by
 by_cases a:q=0
 . rw[a,Rat.div_def,Rat.inv_zero,Rat.mul_zero];exact Fits.zero.mono (by omega)
 . rw[Rat.div_def];exact h.mul (b.inv a) c
theorem FBag.equal{w0 w:Vz}{L:List FE}{x1 x2 x3 y1 y2 y3:Value}{j k:Nat}{p q:Rat}(h:FBag w0 w L)(a:⟨x1,x2,x3,p,j⟩∈ L)(b:⟨y1,y2,y3,q,k⟩∈ L):
 Calls prog 210 #[.agg #[x1,x2,x3],.agg #[y1,y2,y3]] w (fun e w'=>e=.returned (.bool (decide (p=q)))/\FBag w0 w' L):=by
 obtain⟨a,d,f⟩:=h.get a;obtain⟨b,g,i⟩:=h.get b;refine(Qpi a b).mono ?_;rintro e w' ⟨rfl,c⟩;exact⟨rfl,h.below c⟩
theorem FBag.of{w0 w:Vz}{L:List FE}{n:Nat}(s:Vs)(h:FBag w0 w L)(b:s.size<=n)(f:n<=1073741824):
 Calls prog 63 #[.string s] w (fun e w'=>∃q,QOf s.data.toList q/\FNewB w0 L q (4*n+1) e w'):=by
 obtain⟨m,c⟩:=h.globNow.most;refine(Qk3 s m w c (by omega)).mono ?_;rintro e w' ⟨q,a,d⟩;exact⟨q,a,h.new d (a.fits (by rw[Qah];exact b)) (by omega)⟩
theorem Qic{C:Vw}(h:∀v,v∈ C.toList->∀n,v≠Value.int .u64 n):NoU64 C:=fun i n a=>h _ (by rw[<-Array.getElem?_toList] at a;exact mO a) n rfl
theorem Qaa(P:Program){v:Value}(h:v.oneCell'=true):∀(a:Addr) (w:Vz),(store a v).run P w=stored P w a v .plain:=fun a w=>run_store P w a v .plain h
theorem FracV.one{w:Vz}{x y z:Value}{q:Rat}(h:FracV w (.agg #[x,y,z]) q):x.oneCell'=true/\y.oneCell'=true/\z.oneCell'=true:=by
 obtain⟨neg,a,n,c,b,m,d,e,_⟩:=h;simp at e;obtain⟨rfl,rfl,rfl⟩:=e;exact⟨rfl,rfl,rfl⟩
theorem FracV.no64{w:Vz}{x y z:Value}{q:Rat}(h:FracV w (.agg #[x,y,z]) q)(n:Int):x≠.int .u64 n/\y≠.int .u64 n/\z≠.int .u64 n:=by
 obtain⟨neg,a,m,c,b,k,d,e,_⟩:=h;simp at e;obtain⟨rfl,rfl,rfl⟩:=e;exact⟨by simp,by simp,by simp⟩
theorem Tryz.spotInfo:(prog.info? 34).map (·.size)=some 2:=by kernel_rfl
end Go.Proofs.YtkkadnoecklepaaGreatDoor
