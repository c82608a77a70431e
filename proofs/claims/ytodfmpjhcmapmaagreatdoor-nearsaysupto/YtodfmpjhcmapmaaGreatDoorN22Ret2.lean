/- What a function answers: a value, and a struct that lies in a box. -/
import Derived.Test.YtodfmpjhcmapmaaGreatDoorN21NatGcd
namespace Go.Proofs.YtodfmpjhcmapmaaGreatDoor
open Go.RowKit
set_option linter.unusedVariables false
set_option linter.unusedSimpArgs false
theorem Qf8(neg:Bool):sgn neg 0=0:=by cases neg<;>simp[sgn]
theorem Qkr{neg:Bool}{t:Nat}(h:0<t):decide (sgn neg t<0)=neg:=by cases neg<;>simp[sgn]<;>omega
theorem Qbo(x:Int):sgn (decide (x<0)) x.natAbs=x:=by
 unfold sgn;by_cases h:x<0
 · simp[h];omega
 · simp[h];omega
theorem Qb0(p q:Bool)(s t:Nat):sgn (p != q) (s*t)=sgn p s*sgn q t:=by cases p<;>cases q<;>simp[sgn]<;>grind
theorem Qks(p:Bool)(s:Nat):sgn (!p) s= - sgn p s:=by cases p<;>simp[sgn]
theorem Qf9{neg:Bool}{t d:Nat}(hd:0<d)(hc:Nat.Coprime t d):(mkRat (sgn neg t) d).num=sgn neg t∧(mkRat (sgn neg t) d).den=d:=by
 have e:=Rat.mk_eq_mkRat (sgn neg t) d (by omega) (by rw[Qdf];exact hc);rw[←e];exact⟨rfl,rfl⟩
theorem Qkt(x y:Rat){g h:Nat}(hg:Nat.gcd x.num.natAbs y.den=g)(hh:Nat.gcd y.num.natAbs x.den=h):
 mkRat (sgn (decide (x.num<0) != decide (y.num<0)) (x.num.natAbs / g*(y.num.natAbs / h))) (x.den / h*(y.den / g))=x*y∧Nat.Coprime (x.num.natAbs / g*(y.num.natAbs / h)) (x.den / h*(y.den / g)):=by
 have gp:0<g:=by rw[←hg];exact Nat.gcd_pos_of_pos_right _ y.den_pos
 have hp:0<h:=by rw[←hh];exact Nat.gcd_pos_of_pos_right _ x.den_pos
 have d1:g ∣ x.num.natAbs:=hg ▸ Nat.gcd_dvd_left _ _;have d2:g ∣ y.den:=hg ▸ Nat.gcd_dvd_right _ _;have d3:h ∣ y.num.natAbs:=hh ▸ Nat.gcd_dvd_left _ _;have d4:h ∣ x.den:=hh ▸ Nat.gcd_dvd_right _ _;have e1:=Nat.div_mul_cancel d1;have e2:=Nat.div_mul_cancel d2;have e3:=Nat.div_mul_cancel d3;have e4:=Nat.div_mul_cancel d4;constructor
 ·
  rw[←Qe5,←Rat.mkRat_mul_right (a:=g*h) (by have:=Nat.mul_pos gp hp;omega)]
  congr 1
  ·
   have k1:(sgn (decide (x.num<0)) (x.num.natAbs / g))*(g:Int)=x.num:=by
    have:=Qb0 (decide (x.num<0)) false (x.num.natAbs / g) g;rw[show sgn false g=(g:Int) from rfl,e1,Bool.bne_false,Qbo] at this;exact this.symm
   have k2:(sgn (decide (y.num<0)) (y.num.natAbs / h))*(h:Int)=y.num:=by
    have:=Qb0 (decide (y.num<0)) false (y.num.natAbs / h) h;rw[show sgn false h=(h:Int) from rfl,e3,Bool.bne_false,Qbo] at this;exact this.symm
   rw[Qb0,←k1,←k2,Int.natCast_mul];rw[k1,k2]
   conv=>rhs;rw[←k1,←k2]
   grind
  ·
   rw[Int.natAbs_mul,Int.natAbs_natCast,Int.natAbs_natCast]
   conv=>rhs;rw[←e4,←e2]
   grind
 ·
  have c1:Nat.Coprime (x.num.natAbs / g) (x.den / h):=Nat.Coprime.coprime_dvd_left (Nat.div_dvd_of_dvd d1) (Nat.Coprime.coprime_dvd_right (Nat.div_dvd_of_dvd d4) x.reduced);have c2:Nat.Coprime (x.num.natAbs / g) (y.den / g):=by have:=Nat.coprime_div_gcd_div_gcd (m:=x.num.natAbs) (n:=y.den) (by omega);rw[hg] at this;exact this
  have c3:Nat.Coprime (y.num.natAbs / h) (x.den / h):=by have:=Nat.coprime_div_gcd_div_gcd (m:=y.num.natAbs) (n:=x.den) (by omega);rw[hh] at this;exact this
  have c4:Nat.Coprime (y.num.natAbs / h) (y.den / g):=Nat.Coprime.coprime_dvd_left (Nat.div_dvd_of_dvd d3) (Nat.Coprime.coprime_dvd_right (Nat.div_dvd_of_dvd d2) y.reduced);exact Nat.Coprime.mul_left (Nat.Coprime.mul_right c1 c2) (Nat.Coprime.mul_right c3 c4)
theorem Qku(x y:Rat){g h t:Nat}{neg:Bool}(hg:Nat.gcd x.den y.den=g)(ht:sgn neg t=x.num*((y.den / g:Nat):Int)+y.num*((x.den / g:Nat):Int))(hh:Nat.gcd t g=h):
 mkRat (sgn neg (t / h)) (x.den / g*(y.den / h))=x+y∧Nat.Coprime (t / h) (x.den / g*(y.den / h)):=by
 have gp:0<g:=by rw[←hg];exact Nat.gcd_pos_of_pos_right _ y.den_pos
 have hp:0<h:=by rw[←hh];exact Nat.gcd_pos_of_pos_right _ gp
 have d1:g ∣ x.den:=hg ▸ Nat.gcd_dvd_left _ _;have d2:g ∣ y.den:=hg ▸ Nat.gcd_dvd_right _ _;have d3:h ∣ t:=hh ▸ Nat.gcd_dvd_left _ _;have d4:h ∣ g:=hh ▸ Nat.gcd_dvd_right _ _;have e1:=Nat.div_mul_cancel d1;have e2:=Nat.div_mul_cancel d2;have e3:=Nat.div_mul_cancel d3;have e4:=Nat.div_mul_cancel (Nat.dvd_trans d4 d2);have ta:t=(x.num*((y.den / g:Nat):Int)+y.num*((x.den / g:Nat):Int)).natAbs:=by rw[←ht,Qdf]
 constructor
 ·
  rw[←Qdq,←Rat.mkRat_mul_right (a:=h*g) (by have:=Nat.mul_pos hp gp;omega)]
  congr 1
  ·
   have k1:sgn neg (t / h)*(h:Int)=sgn neg t:=by
    have:=Qb0 neg false (t / h) h;rw[show sgn false h=(h:Int) from rfl,e3,Bool.bne_false] at this;exact this.symm
   rw[Int.natCast_mul,←Int.mul_assoc,k1,ht]
   conv=>rhs;rw[←e1,←e2,Int.natCast_mul,Int.natCast_mul]
   grind
  ·
   rw[Int.natAbs_mul,Int.natAbs_natCast,Int.natAbs_natCast]
   conv=>rhs;rw[←e1,←e4]
   grind
 ·
  have aux:=Rat.add.aux x y hg.symm rfl rfl;simp only[] at aux;rw[←ta,hh] at aux;have hc:=Nat.coprime_div_gcd_div_gcd (m:=t) (n:=x.den / g*y.den) (by rw[←aux];exact hp);rw[←aux,Nat.mul_div_assoc _ (Nat.dvd_trans d4 d2)] at hc;exact hc
theorem Qkv{y:Rat}(hy:y≠0):mkRat (sgn (decide (y.num<0)) y.den) y.num.natAbs=y⁻¹∧Nat.Coprime y.den y.num.natAbs∧0<y.num.natAbs:=by
 have h0:y.num≠0:=fun h=>hy (Rat.num_eq_zero.1 h)
 refine⟨?_,Nat.Coprime.symm y.reduced,by omega⟩;rw[Rat.inv_def];by_cases h:y.num<0
 · conv=>rhs;rw[show y.num= -((y.num.natAbs:Nat):Int) by omega,Rat.divInt_neg',Rat.divInt_ofNat]
   simp[sgn,h]
 ·
  conv=>rhs;rw[show y.num=((y.num.natAbs:Nat):Int) by omega]
  rw[Rat.divInt_ofNat];simp[sgn,h]
structure Ent where
 a:Option Addr
 n:Nat
 c:Nat
 x:Nat
 k:Nat
def NumV(w:World)(a:Option Addr)(n c x:Nat):Prop:=∃l,List.length l=n∧U64 w a c l x
theorem NumV.below{w w':World}{a:Option Addr}{n c x:Nat}(h:NumV w a n c x)(hb:Below w.heap.size w w'):NumV w' a n c x:=by
 obtain⟨l,hl,h⟩:=h;exact⟨l,hl,h.below hb⟩
theorem NumV.zero_iff{w:World}{a:Option Addr}{n c x:Nat}(h:NumV w a n c x):x=0↔n=0:=by
 obtain⟨l,rfl,h⟩:=h;exact h.num.len_zero (by decide)
theorem U64.len_bits{w:World}{a:Option Addr}{c:Nat}{l:List Nat}{n k:Nat}(h:U64 w a c l n)(hn:n<2 ^ k):l.length≤k:=by
 apply h.num.length_le_of_lt (by decide);refine Nat.lt_of_lt_of_le hn ?_;exact Nat.pow_le_pow_left (by decide) k
theorem NumV.some{w:World}{a:Option Addr}{n c x:Nat}(h:NumV w a n c x)(h0:0<x):∃b o,a=some ⟨b,o,none⟩:=by
 have hn:n≠0:=fun hc=>by have:=h.zero_iff.2 hc;omega
 obtain⟨l,hl,h⟩:=h;obtain⟨b,o,e,_⟩:=h.row.cell 0 (by omega);exact⟨b,o,e⟩
structure NBag (w0 w:World) (L:List Ent):Prop where
 base:Below w0.heap.size w0 w
 ts:∀t,t∈ L→NumV w t.a t.n t.c t.x∧t.x<2 ^ t.k
theorem NBag.below{w0 w w':World}{L:List Ent}(h:NBag w0 w L)(hb:Below w.heap.size w w'):NBag w0 w' L:=
 ⟨h.base.trans (hb.mono h.base.size),fun t ht=>⟨(h.ts t ht).1.below hb,(h.ts t ht).2⟩⟩
theorem NBag.drew{w0 w:World}{L:List Ent}(h:NBag w0 w L):NBag w0 w.drew L:=h.below (Below.refl _ _).drew
theorem NBag.alloc{w0 w:World}{L:List Ent}(h:NBag w0 w L)(o:Obj):NBag w0 (w.alloc o) L:=h.below ((Below.refl _ _).alloc (Nat.le_refl _) _)
theorem NBag.put{w0 w:World}{L:List Ent}{a:Option Addr}{n c x k:Nat}(h:NBag w0 w L)(hv:NumV w a n c x)(hk:x<2 ^ k):NBag w0 w (⟨a,n,c,x,k⟩ :: L):=
 ⟨h.base,fun t ht=>by
   rcases List.mem_cons.1 ht with rfl|ht
   · exact⟨hv,hk⟩
   · exact h.ts t ht⟩
theorem NBag.get{w0 w:World}{L:List Ent}{a:Option Addr}{n c x k:Nat}(h:NBag w0 w L)(hx:⟨a,n,c,x,k⟩∈ L):NumV w a n c x∧x<2 ^ k:=h.ts _ hx
def NNew(w0:World)(L:List Ent)(x k:Nat)(e:Ending)(w':World):Prop:=∃a n c,e=.returned (.slice a n c)∧NBag w0 w' (⟨a,n,c,x,k⟩ :: L)
theorem NBag.new{w0 w w':World}{L:List Ent}{x k:Nat}{e:Ending}(h:NBag w0 w L)(hn:(∃a cap r,e=.returned (.slice a (List.length r) cap)∧U64 w' a cap r x)∧Below w.heap.size w w')(hk:x<2 ^ k):NNew w0 L x k e w':=by
 obtain⟨⟨a,c,r,rfl,hu⟩,hb⟩:=hn;exact⟨a,r.length,c,rfl,(h.below hb).put ⟨r,rfl,hu⟩ hk⟩
theorem NBag.gcd{w0 w:World}{L:List Ent}{a1 a2:Option Addr}{n1 n2 c1 c2 x y j k:Nat}(h:NBag w0 w L)(hx:⟨a1,n1,c1,x,j⟩∈ L)(hy:⟨a2,n2,c2,y,k⟩∈ L)(hj:j+k<274877906000):
 Calls Tryz.prog 117 #[.slice a1 n1 c1,.slice a2 n2 c2] w (NNew w0 L (Nat.gcd x y) (j+k)):=by
 obtain⟨⟨l,rfl,h1⟩,hb1⟩:=h.get hx;obtain⟨⟨m,rfl,h2⟩,hb2⟩:=h.get hy;refine(Qmi a1 a2 c1 c2 l m x y w h1 h2 (by have:=h1.len_bits hb1;omega) (by have:=h2.len_bits hb2;omega)).mono fun e w' hn=>h.new hn ?_
 have e1:2 ^ j≤2 ^ (j+k):=Nat.pow_le_pow_right (by decide) (by omega);have e2:2 ^ k≤2 ^ (j+k):=Nat.pow_le_pow_right (by decide) (by omega);rcases Nat.eq_zero_or_pos x with h0|h0
 · subst h0;rw[Nat.gcd_zero_left];omega
 · have:=Nat.gcd_le_left y h0;omega
theorem NBag.quot{w0 w:World}{L:List Ent}{a1 a2:Option Addr}{n1 n2 c1 c2 x y j k:Nat}(h:NBag w0 w L)(hx:⟨a1,n1,c1,x,j⟩∈ L)(hy:⟨a2,n2,c2,y,k⟩∈ L)(hj:j<274877906000)(h0:0<y):
 Calls Tryz.prog 118 #[.slice a1 n1 c1,.slice a2 n2 c2] w (NNew w0 L (x / y) j):=by
 obtain⟨⟨l,rfl,h1⟩,hb1⟩:=h.get hx;obtain⟨⟨m,rfl,h2⟩,hb2⟩:=h.get hy;refine(Qmn a1 a2 c1 c2 l m x y w h1 h2 h0 (by have:=h1.len_bits hb1;omega)).mono fun e w' hn=>h.new hn ?_
 exact Nat.lt_of_le_of_lt (Nat.div_le_self _ _) hb1
theorem NBag.mul{w0 w:World}{L:List Ent}{a1 a2:Option Addr}{n1 n2 c1 c2 x y j k:Nat}(h:NBag w0 w L)(hx:⟨a1,n1,c1,x,j⟩∈ L)(hy:⟨a2,n2,c2,y,k⟩∈ L)(hj:j+k<274877906000):
 Calls Tryz.prog 116 #[.slice a1 n1 c1,.slice a2 n2 c2] w (NNew w0 L (x*y) (j+k)):=by
 obtain⟨⟨l,rfl,h1⟩,hb1⟩:=h.get hx;obtain⟨⟨m,rfl,h2⟩,hb2⟩:=h.get hy;exact(Qek a1 a2 c1 c2 l m x y w h1 h2 (by have:=h1.len_bits hb1;have:=h2.len_bits hb2;omega)).mono fun e w' hn=>h.new hn (Qca hb1 hb2)
theorem NBag.add{w0 w:World}{L:List Ent}{a1 a2:Option Addr}{n1 n2 c1 c2 x y j k:Nat}(h:NBag w0 w L)(hx:⟨a1,n1,c1,x,j⟩∈ L)(hy:⟨a2,n2,c2,y,k⟩∈ L)(hj:j+k<274877906000):
 Calls Tryz.prog 161 #[.slice a1 n1 c1,.slice a2 n2 c2] w (NNew w0 L (x+y) (j+k+1)):=by
 obtain⟨⟨l,rfl,h1⟩,hb1⟩:=h.get hx;obtain⟨⟨m,rfl,h2⟩,hb2⟩:=h.get hy;refine(Ql2 a1 a2 c1 c2 l m x y w h1 h2 (by have:=h1.len_bits hb1;omega) (by have:=h2.len_bits hb2;omega)).mono fun e w' hn=>h.new hn ?_
 have e1:2 ^ j≤2 ^ (j+k):=Nat.pow_le_pow_right (by decide) (by omega);have e2:2 ^ k≤2 ^ (j+k):=Nat.pow_le_pow_right (by decide) (by omega);have e3:(2:Nat) ^ (j+k+1)=2 ^ (j+k)*2:=Nat.pow_succ _ _;have e4:x<2 ^ j:=hb1;have e5:y<2 ^ k:=hb2;omega
theorem NBag.sub{w0 w:World}{L:List Ent}{a1 a2:Option Addr}{n1 n2 c1 c2 x y j k:Nat}(h:NBag w0 w L)(hx:⟨a1,n1,c1,x,j⟩∈ L)(hy:⟨a2,n2,c2,y,k⟩∈ L)(hyx:y≤x):
 Calls Tryz.prog 162 #[.slice a1 n1 c1,.slice a2 n2 c2] w (NNew w0 L (x - y) j):=by
 obtain⟨⟨l,rfl,h1⟩,hb1⟩:=h.get hx;obtain⟨⟨m,rfl,h2⟩,hb2⟩:=h.get hy;exact(Ql3 a1 a2 c1 c2 l m x y w h1 h2 hyx).mono fun e w' hn=>h.new hn (Nat.lt_of_le_of_lt (Nat.sub_le _ _) hb1)
theorem NBag.compare{w0 w:World}{L:List Ent}{a1 a2:Option Addr}{n1 n2 c1 c2 x y j k:Nat}(h:NBag w0 w L)(hx:⟨a1,n1,c1,x,j⟩∈ L)(hy:⟨a2,n2,c2,y,k⟩∈ L):
 Calls Tryz.prog 145 #[.slice a1 n1 c1,.slice a2 n2 c2] w (fun e w'=>e=.returned (.int .i64 (cmp3 x y))∧NBag w0 w' L):=by
 obtain⟨⟨l,rfl,h1⟩,hb1⟩:=h.get hx;obtain⟨⟨m,rfl,h2⟩,hb2⟩:=h.get hy;refine(Qcn a1 a2 c1 c2 l m x y w h1 h2).mono ?_;rintro e w' ⟨rfl,hb⟩;exact⟨rfl,h.below hb⟩
def LowIn(w:World)(b:Option Addr)(m d k:Nat):Prop:=(b=none∧m=0∧d=0∧k=1)∨(0<k∧NumV w b m d k)
def Low(w:World)(b:Option Addr)(m d k:Nat):Prop:=(b=none∧m=0∧d=0∧k=1)∨(1<k∧NumV w b m d k)
theorem Low.lowIn{w:World}{b:Option Addr}{m d k:Nat}(h:Low w b m d k):LowIn w b m d k:=by
 rcases h with h|⟨h,h1⟩
 · exact .inl h
 · exact .inr ⟨by omega,h1⟩
theorem Low.below{w w':World}{b:Option Addr}{m d k:Nat}(h:Low w b m d k)(hb:Below w.heap.size w w'):Low w' b m d k:=by
 rcases h with h|⟨h,h1⟩
 · exact .inl h
 · exact .inr ⟨h,h1.below hb⟩
structure FracAt (w:World) (neg:Bool) (a:Option Addr) (n c:Nat) (b:Option Addr) (m d:Nat) (q:Rat):Prop where
 neg:neg=decide (q.num<0)
 top:NumV w a n c q.num.natAbs
 low:Low w b m d q.den
theorem FracAt.below{w w':World}{neg:Bool}{a b:Option Addr}{n c m d:Nat}{q:Rat}(h:FracAt w neg a n c b m d q)(hb:Below w.heap.size w w'):FracAt w' neg a n c b m d q:=⟨h.neg,h.top.below hb,h.low.below hb⟩
def FracV(w:World)(v:Value)(q:Rat):Prop:=∃neg a n c b m d,v=.agg #[.bool neg,.slice a n c,.slice b m d]∧FracAt w neg a n c b m d q
theorem FracV.below{w w':World}{v:Value}{q:Rat}(h:FracV w v q)(hb:Below w.heap.size w w'):FracV w' v q:=by
 obtain⟨neg,a,n,c,b,m,d,e,h⟩:=h;exact⟨neg,a,n,c,b,m,d,e,h.below hb⟩
def FNew(w:World)(q:Rat)(e:Ending)(w':World):Prop:=(∃v,e=.returned v∧FracV w' v q)∧Below w.heap.size w w'
theorem NumV.nil(w:World):NumV w none 0 0 0:=⟨[],rfl,U64.nil w⟩
theorem FracV.zero(w:World):FracV w (.agg #[.bool false,.slice none 0 0,.slice none 0 0]) 0:=
 ⟨false,none,0,0,none,0,0,rfl,by decide,NumV.nil w,.inl ⟨rfl,rfl,rfl,rfl⟩⟩
theorem FracV.mk{w:World}{neg:Bool}{a b:Option Addr}{n c m d t k:Nat}(ht:NumV w a n c t)(hl:Low w b m d k)(hc:Nat.Coprime t k)(h0:0<t):FracV w (.agg #[.bool neg,.slice a n c,.slice b m d]) (mkRat (sgn neg t) k):=by
 have hk:0<k:=by rcases hl with ⟨_,_,_,rfl⟩|⟨h,_⟩<;>omega
 obtain⟨e1,e2⟩:=Qf9 (neg:=neg) hk hc;exact⟨neg,a,n,c,b,m,d,rfl,by rw[e1,Qkr h0],by rw[e1,Qdf];exact ht,by rw[e2];exact hl⟩
theorem Qf5{w:World}{a:Option Addr}{n c x:Nat}(h:NumV w a n c x):Calls Tryz.prog 123 #[.slice a n c] w fun e w'=>e=.returned (.bool (decide (x=1)))∧w'=w:=by
 obtain⟨l,rfl,h⟩:=h;exact Qcm a c l x w h
def NoU64(C:Array Value):Prop:=∀(i:Nat) (n:Int),C[i]?≠some (Value.int .u64 n)
theorem Row.only64{w w':World}{a:Option Addr}{cap:Nat}{l:List Nat}{c:Nat}{t:TypeId}{C:Array Value}(h:Row .u64 w a cap l)(ho:Only c w w')(hs:SB w c t C)(hn:NoU64 C):Row .u64 w' a cap l:=by
 refine⟨h.fit,?_,fun i hi=>?_⟩
 ·
  rcases h.shape with h1|⟨b',off,rfl,h2⟩
  · exact .inl h1
  · exact .inr ⟨b',off,rfl,by have:=ho.size;omega⟩
 ·
  obtain⟨b',off,h1,h2,h3⟩:=h.cell i hi;have hne:b'≠c:=by
   rintro rfl;rw[hs.cell] at h3;exact hn _ _ h3
  exact⟨b',off,h1,by have:=ho.size;omega,(World.cell?_of_block (w:=w) (ho.block b' h2 hne)).trans h3⟩
theorem NumV.only{w w':World}{a:Option Addr}{n c x g:Nat}{t:TypeId}{C:Array Value}(h:NumV w a n c x)(ho:Only g w w')(hs:SB w g t C)(hn:NoU64 C):NumV w' a n c x:=by
 obtain⟨l,hl,h⟩:=h;exact⟨l,hl,h.row.only64 ho hs hn,h.num,h.short⟩
theorem FracAt.only{w w':World}{neg:Bool}{a b:Option Addr}{n c m d g:Nat}{q:Rat}{t:TypeId}{C:Array Value}(h:FracAt w neg a n c b m d q)(ho:Only g w w')(hs:SB w g t C)(hn:NoU64 C):FracAt w' neg a n c b m d q:=by
 refine⟨h.neg,h.top.only ho hs hn,?_⟩;rcases h.low with h1|⟨h1,h2⟩
 · exact .inl h1
 · exact .inr ⟨h1,h2.only ho hs hn⟩
theorem FracV.only{w w':World}{v:Value}{g:Nat}{q:Rat}{t:TypeId}{C:Array Value}(h:FracV w v q)(ho:Only g w w')(hs:SB w g t C)(hn:NoU64 C):FracV w' v q:=by
 obtain⟨neg,a,n,c,b,m,d,e,h⟩:=h;exact⟨neg,a,n,c,b,m,d,e,h.only ho hs hn⟩
def zeroFrac:Array Value:=#[.bool false,.slice none 0 0,.slice none 0 0]
theorem Qa6:NoU64 zeroFrac:=by
 intro i n h
 match i with
 |0=>simp[zeroFrac] at h
 |1=>simp[zeroFrac] at h
 |2=>simp[zeroFrac] at h
 |i+3=>simp[zeroFrac] at h
theorem SB.new2(w:World)(t1 t2:TypeId)(C D:Array Value):SB ((w.alloc (.cells C t1)).alloc (.cells D t2)) (w.heap.size+1) t2 D:=by
 have:=SB.new (w.alloc (.cells C t1)) t2 D;rw[World.size_alloc] at this;exact this
theorem SB.new3(w:World)(t1 t2 t3:TypeId)(C D E:Array Value):SB (((w.alloc (.cells C t1)).alloc (.cells D t2)).alloc (.cells E t3)) (w.heap.size+1+1) t3 E:=by
 have:=SB.new ((w.alloc (.cells C t1)).alloc (.cells D t2)) t3 E;rw[World.size_alloc,World.size_alloc] at this;exact this
theorem Below.new2(w:World)(o1 o2:Obj):Below w.heap.size w ((w.alloc o1).alloc o2):=(Below.refl _ _).alloc (Nat.le_refl _) _ |>.alloc (by rw[World.size_alloc];omega) _
theorem Below.new3(w:World)(o1 o2 o3:Obj):Below w.heap.size w (((w.alloc o1).alloc o2).alloc o3):=(Below.new2 w o1 o2).alloc (by rw[World.size_alloc,World.size_alloc];omega) _
theorem Tryz.fracInfo:(Tryz.prog.info? 62).map (·.size)=some 3:=by kernel_rfl
set_option maxHeartbeats 400000 in
theorem Qcg(neg:Bool)(a b:Option Addr)(n c m d t k:Nat)(w:World)(ht:NumV w a n c t)(hl:LowIn w b m d k)(hc:Nat.Coprime t k):
 Calls Tryz.prog 68 #[.bool neg,.slice a n c,.slice b m d] w (FNew w (mkRat (sgn neg t) k)):=by
 have HT:=Hi ht;have HC:=Hi hc;have hz:=ht.zero_iff;have HB:=Hi ((Below.refl w.heap.size w).alloc (Nat.le_refl _) (.cells #[.bool false,.slice none 0 0,.slice none 0 0] 62));clear ht hc;by_cases h0:t=0
 ·
  have hn:n=0:=hz.1 h0;subst h0 hn;rw[Qf8,Rat.zero_mkRat];clear hl hz;go_enter Tryz.func68,Tryz.ntmps68;go_wp2;refine bodyPost_ret (v:=.agg #[.bool false,.slice none 0 0,.slice none 0 0]) (results_cell_row rfl _ _ (w.heap.size) 62 #[.bool false,.slice none 0 0,.slice none 0 0] (0,0) _ rfl (SB.new w _ _) Tryz.underlying62 rfl Tryz.fracInfo) rfl ?_;exact⟨⟨_,rfl,FracV.zero _⟩,HB.out⟩
 ·
  have hn:((n:Int) == 0)=false:=by rw[beq_eq_false_iff_ne];omega
  have ht0:0<t:=by omega
  rcases hl with ⟨rfl,rfl,rfl,rfl⟩|⟨hk,hl⟩
  ·
   have HO:=Hi (Qf5 (NumV.nil (w.alloc (.cells #[.bool false,.slice none 0 0,.slice none 0 0] 62))));rw[show decide (0=1)=false by decide] at HO;clear hz h0;go_enter Tryz.func68,Tryz.ntmps68;go_wp2_with fail;go_fit HO.out;rintro e w1 ⟨rfl,hw⟩;subst hw;clear HO;go_wp2;refine bodyPost_ret (v:=.agg #[.bool neg,.slice a n c,.slice none 0 0]) (results_cell_row rfl _ _ (w.heap.size) 62 #[.bool neg,.slice a n c,.slice none 0 0] (0,0) _ rfl (SB.new w _ _) Tryz.underlying62 rfl Tryz.fracInfo) rfl ?_;have hb:=(Below.refl w.heap.size w).alloc (Nat.le_refl _) (.cells #[.bool neg,.slice a n c,.slice none 0 0] 62);exact⟨⟨_,rfl,FracV.mk (HT.out.below hb) (.inl ⟨rfl,rfl,rfl,rfl⟩) HC.out ht0⟩,hb⟩
  ·
   have HO:=Hi (Qf5 (hl.below ((Below.refl w.heap.size w).alloc (Nat.le_refl _) (.cells #[.bool false,.slice none 0 0,.slice none 0 0] 62))));have HL:=Hi hl;clear hl;by_cases hk1:k=1
   ·
    rw[show decide (k=1)=true by simpa using hk1] at HO;clear hz h0;go_enter Tryz.func68,Tryz.ntmps68;go_wp2_with fail;go_fit HO.out;rintro e w1 ⟨rfl,hw⟩;subst hw;clear HO;go_wp2;refine bodyPost_ret (v:=.agg #[.bool neg,.slice a n c,.slice none 0 0]) (results_cell_row rfl _ _ (w.heap.size) 62 #[.bool neg,.slice a n c,.slice none 0 0] (0,0) _ rfl (SB.new w _ _) Tryz.underlying62 rfl Tryz.fracInfo) rfl ?_;have hb:=(Below.refl w.heap.size w).alloc (Nat.le_refl _) (.cells #[.bool neg,.slice a n c,.slice none 0 0] 62);exact⟨⟨_,rfl,FracV.mk (HT.out.below hb) (.inl ⟨rfl,rfl,rfl,hk1⟩) HC.out ht0⟩,hb⟩
   ·
    rw[show decide (k=1)=false by simpa using hk1] at HO;have HK:=Hi (show 1<k by omega);clear hz h0 hk1;go_enter Tryz.func68,Tryz.ntmps68;go_wp2_with fail;go_fit HO.out;rintro e w1 ⟨rfl,hw⟩;subst hw;clear HO;go_wp2;refine bodyPost_ret (v:=.agg #[.bool neg,.slice a n c,.slice b m d]) (results_cell_row rfl _ _ (w.heap.size) 62 #[.bool neg,.slice a n c,.slice b m d] (0,0) _ rfl (SB.new w _ _) Tryz.underlying62 rfl Tryz.fracInfo) rfl ?_;have hb:=(Below.refl w.heap.size w).alloc (Nat.le_refl _) (.cells #[.bool neg,.slice a n c,.slice b m d] 62);exact⟨⟨_,rfl,FracV.mk (HT.out.below hb) (.inr ⟨HK.out,HL.out.below hb⟩) HC.out ht0⟩,hb⟩
set_option maxHeartbeats 400000 in
theorem Qf6(neg:Bool)(a b:Option Addr)(n c m d k kb:Nat)(w0 w:World)(L:List Ent)(hB:NBag w0 w L)(hl:Low w b m d k)(hk:k<2 ^ kb):
 Calls Tryz.prog 108 #[.agg #[.bool neg,.slice a n c,.slice b m d]] w (NNew w0 L k kb):=by
 have hq:∀(w:World) (a:Option Addr) (n c n' c':Nat),(binOp .eql 60 (.slice a n c) (.slice none n' c')).run Tryz.prog w=.ok (.bool a.isNone) w:=fun w a n c n' c'=>Lib.run_eql_slice_nil w _ _ a n c n' c' Tryz.underlying60
 have HB:=Hi hB;have HK:=Hi hk;have HL:=Hi hl;clear hB hk;rcases hl with ⟨rfl,rfl,rfl,rfl⟩|⟨h1,h2⟩
 ·
  go_enter Tryz.func108,Tryz.ntmps108;go_wp2;go_ret;have hB:Blk .u64 81 ((w.alloc (.cells #[.bool neg,.slice a n c,.slice none 0 0] 62)).alloc (.cells (wordCells .u64 [1]) 81)) (w.heap.size+1) [1]:=by
   have:=Blk.new .u64 81 (w.alloc (.cells #[.bool neg,.slice a n c,.slice none 0 0] 62)) [1];rw[World.size_alloc] at this;exact this
  exact⟨_,1,1,rfl,((HB.out.alloc _).alloc _).put ⟨[1],rfl,hB.row 1 (by simp) 1 (by omega),⟨fun d hd=>by simp at hd;omega,.inr (by simp),by simp[val]⟩,by simp⟩ HK.out⟩
 ·
  obtain⟨bb,bo,rfl⟩:=h2.some (by omega);clear h1 h2;go_enter Tryz.func108,Tryz.ntmps108;go_wp2;go_ret;rcases HL.out with ⟨h,_⟩|⟨h1,h2⟩
  · cases h
  · exact⟨_,m,d,rfl,(HB.out.alloc _).put (h2.below ((Below.refl _ _).alloc (Nat.le_refl _) _)) HK.out⟩
set_option maxHeartbeats 400000 in
theorem Qf7(neg:Bool)(a b:Option Addr)(n c m d t:Nat)(w:World)(ht:NumV w a n c t):
 Calls Tryz.prog 120 #[.agg #[.bool neg,.slice a n c,.slice b m d]] w fun e w'=>e=.returned (.bool (decide (t=0)))∧Below w.heap.size w w':=by
 have e:decide (t=0)=((n:Int) == 0):=by
  have:=ht.zero_iff;by_cases h:t=0
  · simp[h,this.1 h]
  · rw[decide_eq_false h];symm;rw[beq_eq_false_iff_ne];omega
 rw[e];clear e ht;go_enter Tryz.func120,Tryz.ntmps120;go_wp2;go_ret;exact⟨rfl,(Below.refl _ _).alloc (Nat.le_refl _) _⟩
set_option maxHeartbeats 400000 in
theorem Qkj(neg:Bool)(a b:Option Addr)(n c m d:Nat)(q:Rat)(w:World)(h:FracAt w neg a n c b m d q):
 Calls Tryz.prog 154 #[.agg #[.bool neg,.slice a n c,.slice b m d]] w (FNew w (-q)):=by
 have e:mkRat (sgn (!neg) q.num.natAbs) q.den= -q:=by
  rw[Qks,h.neg,Qbo,←Rat.neg_mkRat,Rat.mkRat_self]
 have HC:=Hi (fun w' hb=>Qcg (!neg) a b n c m d q.num.natAbs q.den w' (h.top.below hb) ((h.low.below hb).lowIn) q.reduced);rw[e] at HC;clear h e;go_enter Tryz.func154,Tryz.ntmps154;have HS:=Hi (SB.new2 w 62 62 #[.bool neg,.slice a n c,.slice b m d] zeroFrac);have HBP:=Hi (Below.new2 w (.cells #[.bool neg,.slice a n c,.slice b m d] 62) (.cells zeroFrac 62));go_wp2_with fail;go_fit (HC.out _ HBP.out);rintro e w9 ⟨⟨v9,rfl,hv⟩,hb⟩;obtain⟨neg9,a9,n9,c9,b9,m9,d9,rfl,hv⟩:=hv;have hs:=HS.out.below hb HS.out.lt;have k0:=hs.cell 0;have k1:=hs.cell 1;have k2:=hs.cell 2;have f0:=hs.free 0;have f1:=hs.free 1;have f2:=hs.free 2;simp[zeroFrac] at k0 k1 k2;have HV:=Hi hv;have HS9:=Hi hs;have HB9:=Hi (HBP.out.trans (hb.mono HBP.out.size));clear hv hs hb;go_wp2
 refine bodyPost_ret (v:=.agg #[.bool neg9,.slice a9 n9 c9,.slice b9 m9 d9]) (results_cell_row rfl _ _ (w.heap.size+1) 62 #[.bool neg9,.slice a9 n9 c9,.slice b9 m9 d9] (0,0) _ rfl (((HS9.out.set 0 _).set 1 _).set 2 _) Tryz.underlying62 rfl Tryz.fracInfo) rfl ?_;have ho:=(((Only.refl (w.heap.size+1) w9).setCell 0 (.bool neg9)).setCell 1 (.slice a9 n9 c9)).setCell 2 (.slice b9 m9 d9);exact⟨⟨_,rfl,neg9,a9,n9,c9,b9,m9,d9,rfl,HV.out.only ho HS9.out Qa6⟩,Only.fresh HB9.out ho (by omega)⟩
end Go.Proofs.YtodfmpjhcmapmaaGreatDoor
namespace Go.Proofs.YtodfmpjhcmapmaaGreatDoor
open Go.RowKit
set_option linter.unusedVariables false
theorem Qcv{P:Program}{fn:Func}{p u:Tmp}{ty:TypeId}(h:fn.results=#[.tmp u,.cell p ty])(tmps:Array Value)(w:World)(g:Nat)(t:TypeId)(cs:Array Value)(fr:Nat × Nat)(d:TypeDesc)
 (hp:tmps.getD p undef=.pointer (some ⟨g,0,none⟩)) (hg:w.heap[g]?=some (.cells cs t fr))
 (hu:P.underlying ty=some d) (hd:(match d with| .struct _| .array _ _=>true|_=>false)=true) (hi:(P.info? ty).map (·.size)=some cs.size):
 (results fn tmps).run P w=.ok (.tuple #[tmps.getD u undef,.agg cs]) w:=by
 have hp':tmps[p]?.getD undef=.pointer (some ⟨g,0,none⟩):=by simpa using hp
 simp[results,h,hp',asAddr,run_loadVar_row w g t ty cs fr d hg hu hd hi]
end Go.Proofs.YtodfmpjhcmapmaaGreatDoor
