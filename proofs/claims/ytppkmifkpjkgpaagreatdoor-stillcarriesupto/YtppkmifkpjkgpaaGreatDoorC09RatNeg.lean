import Derived.Test.YtppkmifkpjkgpaaGreatDoorC08RefOf
namespace Go.Proofs.YtppkmifkpjkgpaaGreatDoor
open Go.RowKit
open Go.Proofs.Tryz
set_option linter.unusedSimpArgs false
set_option linter.unusedVariables false
set_option maxHeartbeats 8000000
set_option maxRecDepth 1000000
theorem RatOk.new{w w':Vz}{q:Rat}{e:Ending}(h:RatOk (w.alloc (.cells #[.bool false,.slice none 0 0,.bool false,.slice none 0 0] 124)) w.heap.size q e w'):NewRat w q e w':=
 ⟨⟨_,h.1,Nat.le_refl _,h.val⟩,Only.fresh (bR.alloc lZ _) h.2.1 lZ⟩
theorem RatVal.alloc{w:Vz}{b:Nat}{q:Rat}(h:RatVal w b q)(o:Obj):RatVal (w.alloc o) b q:=h.below (bR.alloc lZ _)
theorem Qs8(bx b j k:Nat)(p q:Rat)(w:Vz)(d:RatVal w bx p)(f:RatVal w b q)(g:Fits p j)(h:Fits q k)(i:j+k<274877906000):
 Calls prog 94 #[.pointer (some ⟨bx,0,none⟩),.pointer (some ⟨b,0,none⟩)] w (NewRat w (p+q)):=by
 have l:=Hi (Qr3 w.heap.size bx b j k p q _ (Qcm w) (d.alloc _) (f.alloc _) g h i );clear d f g h i;go_enter func94,ntmps94;go_wp2_with fail;refine l.o.mono ?_;rintro e w1 a;have m:=Hi (RatOk.new a);obtain⟨rfl,c,n⟩:=a;clear c n l;go_wp2;go_ret;exact m.o
theorem Qs9(bx b j k:Nat)(p q:Rat)(w:Vz)(d:RatVal w bx p)(f:RatVal w b q)(g:Fits p j)(h:Fits q k)(i:j+k<274877906000):
 Calls prog 90 #[.pointer (some ⟨bx,0,none⟩),.pointer (some ⟨b,0,none⟩)] w (NewRat w (p - q)):=by
 have l:=Hi (Qr4 w.heap.size bx b j k p q _ (Qcm w) (d.alloc _) (f.alloc _) g h i );clear d f g h i;go_enter func90,ntmps90;go_wp2_with fail;refine l.o.mono ?_;rintro e w1 a;have m:=Hi (RatOk.new a);obtain⟨rfl,c,n⟩:=a;clear c n l;go_wp2;go_ret;exact m.o
theorem Qta(bx b j k:Nat)(p q:Rat)(w:Vz)(d:RatVal w bx p)(f:RatVal w b q)(g:Fits p j)(h:Fits q k)(i:j+k<274877906000):
 Calls prog 91 #[.pointer (some ⟨bx,0,none⟩),.pointer (some ⟨b,0,none⟩)] w (NewRat w (p*q)):=by
 have l:=Hi (Qsa w.heap.size bx b j k p q _ (Qcm w) (d.alloc _) (f.alloc _) g h i );clear d f g h i;go_enter func91,ntmps91;go_wp2_with fail;refine l.o.mono ?_;rintro e w1 a;have m:=Hi (RatOk.new a);obtain⟨rfl,c,n⟩:=a;clear c n l;go_wp2;go_ret;exact m.o
theorem Qtb(bx j:Nat)(p:Rat)(w:Vz)(c:RatVal w bx p)(d:Fits p j)(g:j<274877906000):
 Calls prog 50 #[.pointer (some ⟨bx,0,none⟩)] w (NewRat w (-p)):=by
 have f:=Hi (Qgl w.heap.size bx j p _ (Qcm w) (c.alloc _) d (by omega));clear c d g;go_enter func50,ntmps50;go_wp2_with fail;refine f.o.mono ?_;rintro e w1 a;have h:=Hi (RatOk.new a);obtain⟨rfl,b,i⟩:=a;clear b i f;go_wp2;go_ret;exact h.o
theorem ref_N(x:Nat)(w:Vz)(d:x<1000000):
 Calls prog 92 #[.int .i64 x] w (NewRat w (x:Rat)):=by
 have c:=Hi (Qsv w.heap.size x _ (Qcm w) d);go_enter func92,ntmps92;go_wp2_with fail;refine c.o.mono ?_;rintro e w1 a;have f:=Hi (RatOk.new a);obtain⟨rfl,b,g⟩:=a;clear b g c;go_wp2;go_ret;exact f.o
theorem Qbw{a b j k:Nat}(c:a<2 ^ j)(d:b<2 ^ k):a*b<2 ^ (j+k):=by rw[Nat.pow_add];exact Nat.mul_lt_mul'' c d
theorem Fits.mul{p q:Rat}{j k:Nat}(h:Fits p j)(a:Fits q k)(b:0<j):Fits (p*q) (j+k):=by
 rw[<-Qgi];refine Fits.mk ?_ ?_ (by omega)
 . rw[Int.natAbs_mul];exact Qbw h.1 a.1
 . rw[Int.natAbs_mul];exact Qbw h.2 a.2
theorem Fits.add{p q:Rat}{j k:Nat}(h:Fits p j)(a:Fits q k):Fits (p+q) (j+k+1):=by
 rw[<-Qeg];have d:=Qbw h.1 a.2;have b:=Qbw a.1 h.2;have e:(2:Nat) ^ (j+k+1)=2 ^ (j+k)*2:=Nat.pow_succ _ _;rw[Nat.add_comm k j] at b;refine Fits.mk ?_ ?_ (by omega)
 .
  have c:=Int.natAbs_add_le (p.num*(q.den:Int)) (q.num*(p.den:Int));rw[Int.natAbs_mul,Int.natAbs_mul,Int.natAbs_natCast,Int.natAbs_natCast] at c;omega
 .
  rw[Int.natAbs_mul,Int.natAbs_natCast,Int.natAbs_natCast];have:=Qbw h.2 a.2;omega
theorem Fits.sub{p q:Rat}{j k:Nat}(h:Fits p j)(a:Fits q k):Fits (p - q) (j+k+1):=by
 rw[Rat.sub_eq_add_neg];exact h.add a.neg
theorem Fits.quo{p q:Rat}{j k:Nat}(h:Fits p j)(a:Fits q k)(c:0<j)(b:0<q.num):Fits (p / q) (j+k):=by
 rw[<-Qgj p q b];refine Fits.mk ?_ ?_ (by omega)
 . rw[Int.natAbs_mul];exact Qbw h.1 a.2
 . rw[Int.natAbs_mul];exact Qbw h.2 a.1
structure RBag (w0 w:Vz) (L:List (Nat × Rat × Nat)):Prop where
 base:Below w0.heap.size w0 w
 glob:∃m,w.cell? ⟨4,0,none⟩=some (.int .i64 m)
 ts:∀t,t∈ L->RatVal w t.1 t.2.1/\Fits t.2.1 t.2.2/\0<t.2.2
theorem RBag.start{w:Vz}(h:∃m,w.cell? ⟨4,0,none⟩=some (.int .i64 m)):RBag w w []:=⟨Below.refl _ _,h,fun t a=>by cases a⟩
theorem RBag.below{w0 w w':Vz}{L:List (Nat × Rat × Nat)}(h:RBag w0 w L)(a:Below w.heap.size w w'):RBag w0 w' L:=by
 refine⟨h.base.trans (a.mono h.base.size),?_,fun t b=>⟨(h.ts t b).1.below a,(h.ts t b).2⟩⟩;obtain⟨m,c⟩:=h.glob;exact⟨m,ce a (World.block_lt_of_cell? _ _ c) c⟩
theorem RBag.drew{w0 w:Vz}{L:List (Nat × Rat × Nat)}(h:RBag w0 w L):RBag w0 w.drew L:=h.below bR.drew
theorem RBag.put{w0 w:Vz}{L:List (Nat × Rat × Nat)}{b k:Nat}{q:Rat}(h:RBag w0 w L)(c:RatVal w b q)(d:Fits q k)(hk:0<k):RBag w0 w ((b,q,k) :: L):=
 ⟨h.base,h.glob,fun t a=>by
   rcases List.mem_cons.1 a with rfl|a
   . exact⟨c,d,hk⟩
   . exact h.ts t a⟩
theorem RBag.rebase{w0 w:Vz}{L:List (Nat × Rat × Nat)}(h:RBag w0 w L):RBag w w L:=⟨Below.refl _ _,h.glob,h.ts⟩
def RNew(w0:Vz)(L:List (Nat × Rat × Nat))(q:Rat)(k:Nat)(e:Ending)(w':Vz):Prop:=∃b,e=.returned (.pointer (some ⟨b,0,none⟩))/\RBag w0 w' ((b,q,k) :: L)
theorem RBag.new{w0 w w':Vz}{L:List (Nat × Rat × Nat)}{q:Rat}{k:Nat}{e:Ending}(h:RBag w0 w L)(a:NewRat w q e w')(c:Fits q k)(hk:0<k):RNew w0 L q k e w':=by
 obtain⟨⟨b,d,_,f⟩,g⟩:=a;exact⟨b,d,(h.below g).put f c hk⟩
theorem RBag.add{w0 w:Vz}{L:List (Nat × Rat × Nat)}{bx c j k:Nat}{p q:Rat}(h:RBag w0 w L)(d:(bx,p,j)∈ L)(f:(c,q,k)∈ L)(g:j+k<274877906000):
 Calls prog 94 #[.pointer (some ⟨bx,0,none⟩),.pointer (some ⟨c,0,none⟩)] w (RNew w0 L (p+q) (j+k+1)):=by
 have a:=h.ts _ d;have b:=h.ts _ f;exact(Qs8 bx c j k p q w a.1 b.1 a.2.1 b.2.1 g).mono fun e w' i=>h.new i (a.2.1.add b.2.1) (by omega)
theorem RBag.sub{w0 w:Vz}{L:List (Nat × Rat × Nat)}{bx c j k:Nat}{p q:Rat}(h:RBag w0 w L)(d:(bx,p,j)∈ L)(f:(c,q,k)∈ L)(g:j+k<274877906000):
 Calls prog 90 #[.pointer (some ⟨bx,0,none⟩),.pointer (some ⟨c,0,none⟩)] w (RNew w0 L (p - q) (j+k+1)):=by
 have a:=h.ts _ d;have b:=h.ts _ f;exact(Qs9 bx c j k p q w a.1 b.1 a.2.1 b.2.1 g).mono fun e w' i=>h.new i (a.2.1.sub b.2.1) (by omega)
theorem RBag.mul{w0 w:Vz}{L:List (Nat × Rat × Nat)}{bx c j k:Nat}{p q:Rat}(h:RBag w0 w L)(d:(bx,p,j)∈ L)(f:(c,q,k)∈ L)(g:j+k<274877906000):
 Calls prog 91 #[.pointer (some ⟨bx,0,none⟩),.pointer (some ⟨c,0,none⟩)] w (RNew w0 L (p*q) (j+k)):=by
 have a:=h.ts _ d;have b:=h.ts _ f;have i:0<j:=a.2.2;exact(Qta bx c j k p q w a.1 b.1 a.2.1 b.2.1 g).mono fun e w' l=>h.new l (a.2.1.mul b.2.1 i) (by omega)
theorem RBag.neg{w0 w:Vz}{L:List (Nat × Rat × Nat)}{bx j:Nat}{p:Rat}(h:RBag w0 w L)(b:(bx,p,j)∈ L)(c:j<274877906000):
 Calls prog 50 #[.pointer (some ⟨bx,0,none⟩)] w (RNew w0 L (-p) j):=by
 have a:=h.ts _ b;exact(Qtb bx j p w a.1 a.2.1 c).mono fun e w' d=>h.new d a.2.1.neg a.2.2
theorem RBag.nought{w0 w:Vz}{L:List (Nat × Rat × Nat)}(h:RBag w0 w L):
 Calls prog 92 #[.int .i64 0] w (RNew w0 L 0 1):=
 (ref_N 0 w (by decide)).mono fun e w' a=>h.new a Fits.zero (by decide)
theorem RBag.of{w0 w:Vz}{L:List (Nat × Rat × Nat)}{n:Nat}(s:Vs)(h:RBag w0 w L)(b:s.size<=n)(d:n<=1073741824):
 Calls prog 33 #[.string s] w fun e w'=>∃q,QOf s.data.toList q/\RNew w0 L q (4*n+1) e w':=by
 obtain⟨m,c⟩:=h.glob;refine(Qs7 s m w c (by omega)).mono ?_;rintro e w' ⟨q,a,hk⟩;exact⟨q,a,h.new hk (a.fits (by simpa using b)) (by omega)⟩
theorem RBag.text{w0 w:Vz}{L:List (Nat × Rat × Nat)}{bx j:Nat}{p:Rat}(h:RBag w0 w L)(c:(bx,p,j)∈ L)(d:j<274877906000):
 Calls prog 55 #[.pointer (some ⟨bx,0,none⟩)] w fun e w'=>(∃s,e=.returned (.string s)/\QText s.data.toList p)/\RBag w0 w' L:=by
 have a:=h.ts _ c;exact(ref_T bx j p w a.1 a.2.1 (by omega)).mono fun e w' b=>⟨b.1,h.below b.2⟩
theorem RBag.sign{w0 w:Vz}{L:List (Nat × Rat × Nat)}{bx j:Nat}{p:Rat}(h:RBag w0 w L)(a:(bx,p,j)∈ L):
 Calls prog 35 #[.pointer (some ⟨bx,0,none⟩)] w fun e w'=>e=.returned (.int .i64 (sgn3 p.num))/\w'=w:=
 Qso bx p w (h.ts _ a).1
theorem RatAt.negA{w w':Vz}{b:Nat}{P D:Int}{i d:Vx}{c1 c2:Nat}{f g:Vy}{e:Ending}(h:RatAt w b P D i c1 f d c2 g)(k:LaidOk w b 0 124 #[.bool (decide (P<0)),.slice i f.length c1,.bool (decide (D<0)),.slice d g.length c2] (-P) e w'):
 e=.returned (.pointer (some ⟨b,0,none⟩))/\Only b w w'/\∃a c l,RatAt w' b (-P) D a c l d c2 g/\l.length<=f.length:=by
 obtain⟨rfl,a,c,l,hl⟩:=k;refine⟨rfl,hl.only,a,c,l,⟨?_,hl.num,h.den.only hl.only h.sb (Qab _ _ _ _ _ _ _ _)⟩,hl.num.len_mono h.num (by omega)⟩;have:=hl.sb
 simpa [putInt] using this
theorem RatAt.negB{w w':Vz}{b:Nat}{P D:Int}{d i:Vx}{c1 c2:Nat}{f g:Vy}{e:Ending}(h:RatAt w b P D d c1 f i c2 g)(k:LaidOk w b 2 124 #[.bool (decide (P<0)),.slice d f.length c1,.bool (decide (D<0)),.slice i g.length c2] (-D) e w'):
 e=.returned (.pointer (some ⟨b,2,none⟩))/\Only b w w'/\∃a c l,RatAt w' b P (-D) d c1 f a c l/\l.length<=g.length:=by
 obtain⟨rfl,a,c,l,hl⟩:=k;refine⟨rfl,hl.only,a,c,l,⟨?_,h.num.only hl.only h.sb (Qab _ _ _ _ _ _ _ _),hl.num⟩,hl.num.len_mono h.den (by omega)⟩;have:=hl.sb
 simpa [putInt] using this
theorem Qsc(b:Nat)(P0 D0:Int)(b1 b2:Vx)(d1 d2:Nat)(m1 m2:Vy)(w0:Vz)(h0:RatAt w0 b P0 D0 b1 d1 m1 b2 d2 m2)(hn:D0<0)(s:m1.length<1099511627770)(f:m2.length<1099511627770):
 Calls prog 117 #[.pointer (some ⟨b,0,none⟩)] w0 (RatOk w0 b (mkRat (-P0) D0.natAbs)):=by
 have k0:=h0.c0;have k1:=h0.c1;have k2:=h0.c2;have k3:=h0.c3;have ao:decide (D0<0)=true:=by simp;omega
 rw[ao] at k2;have q1:((m2.length:Int) == 0)=false:=by
  rw[beq_eq_false_iff_ne];have:=(h0.den.num.len_zero (by decide)).2;omega
 have HH:=Hi h0;obtain⟨q,B⟩:=nm (mkRat (-P0) D0.natAbs);rw[B];have HQ:=Hi B;clear h0 ao B;have ap:=Hi (fun u (hu:RatAt u b P0 D0 b1 d1 m1 b2 d2 m2)=>Qgk b 0 124 _ P0 b1 d1 m1 u hu.sb (Qab _ _ _ _ _ _ _ _) (by simp) hu.upper);go_enter func117,ntmps117;go_wp2_with fail;go_region_held3 (fun _=>True) (trivial) (first
  |(
   go_at_call 119;refine(ap.o _ HH.o.drew).mono ?_;rintro e w1 hk;obtain⟨rfl,au,a1,c1,Q,av,a0⟩:=HH.o.drew.negA hk;obtain⟨aw,ae⟩:=Ia ((Only.refl b w0).drew.trans au) av
   clear hk au av k0 k1 k2 k3)
  |fail)
 have ax:=Hi (fun u (hu:RatAt u b (-P0) D0 a1 c1 Q b2 d2 m2)=>Qgk b 2 124 _ D0 b2 d2 m2 u hu.sb (Qab _ _ _ _ _ _ _ _) (by simp) hu.lower);go_wp2_with fail;go_region_held3 (fun _=>True) (trivial) (first
  |(
   go_at_call 119;refine(ax.o _ ae.o.drew).mono ?_;rintro e w hk;obtain⟨rfl,ay,a2,c2,R,h,hz2⟩:=ae.o.drew.negB hk;have y:=Hi (aw.o.trans ((Only.refl b w1).drew.trans ay))
   clear hk ay ap ax ae aw HH)
  |fail)
 obtain⟨P,aa⟩:∃P,-P0=P:=⟨_,rfl⟩;obtain⟨D,af⟩:∃D,-D0=D:=⟨_,rfl⟩;have az:D0.natAbs=D.natAbs:=by omega
 rw[aa,af] at h;have z:O (mkRat P D.natAbs=q):=Hi (by rw[<-HQ.o,<-az,aa]);have hD:0<D:=by omega
 have ab:Q.length<1099511627770:=by omega
 have ad:R.length<1099511627770:=by omega
 have k0:=h.c0;have k1:=h.c1;have k2:=h.c2;have k3:=h.c3;have S:decide (D<0)=false:=by simp;omega
 rw[S] at k2;clear a0 hz2 az s f;have s:=ab;have f:=ad;clear ab ad;have q2:((Q.length:Int) == 0)=decide (P=0):=by
  have:=h.num.num.len_zero (by decide);by_cases hp:P=0
  . rw[decide_eq_true hp,this.1 (by omega)];rfl
  .
   rw[decide_eq_false hp,beq_eq_false_iff_ne];intro hc;have:=this.2 (by omega);omega
 by_cases hP:P=0
 .
  subst hP;rw[decide_eq_true rfl] at q2;have H:=Hi h;clear h S aa af;go_wp2_with fail;refine(Qfn b 2 124 _ 1 _ H.o.sb (Qab _ _ _ _ _ _ _ _) (by simp) (by decide) (by decide)).mono ?_;rintro e w1 ⟨rfl,a,cap,l,hl⟩;go_wp2;go_ret;refine RatOk.of y.o ?_;rw[<-z.o];rw[Rat.zero_mkRat];refine⟨rfl,hl.only,a1,c1,Q,a,cap,l,?_,?_,hl.num⟩
  . have:=hl.sb
    simpa [putInt] using this
  . exact H.o.num.only hl.only H.o.sb (Qab _ _ _ _ _ _ _ _)
 rw[decide_eq_false hP] at q2;clear aa af;by_cases a3:D=1
 .
  subst a3;have a4:R= [1]:=Qb6 h.den.num;subst a4;obtain⟨b',o',rfl,a5,N⟩:=h.den.row.cell 0 (by simp);have N:w.cell? ⟨b',o',none⟩=some (.int .u32 1):=by simpa using N
  simp only[List.length_singleton] at k3;have H:=Hi h;have e:mkRat P (1:Int).natAbs=(P:Rat):=by
   apply Rat.ext
   . rw[Rat.num_mkRat];simp
   . rw[Rat.den_mkRat];simp
  have HE:=Hi e;clear h S e;go_wp2;go_ret;refine RatOk.of y.o ?_;rw[<-z.o];rw[HE.o];exact⟨rfl,Only.refl _ _,_,_,_,_,_,_,H.o⟩
 by_cases hl:R.length=1
 .
  obtain⟨d,rfl⟩:∃d,R= [d]:=by
   match R,hl with
   | [d],_=>exact⟨d,rfl⟩
  have hd:d≠1:=by
   have:=h.den.num.eq;simp[val] at this;omega
  obtain⟨b',o',rfl,a5,N⟩:=h.den.row.cell 0 (by simp);have N:w.cell? ⟨b',o',none⟩=some (.int .u32 (d:Int)):=by simpa using N
  have ah:((d:Int) == 1)=false:=by rw[beq_eq_false_iff_ne];omega
  simp only[List.length_singleton] at k3;obtain⟨H,HG⟩:=Ia h (Qdk a1 (some ⟨b',o',none⟩) c1 c2 Q ([d]) P.natAbs D.natAbs w.drew h.num.drew h.den.drew (by omega) (by omega));have T:=h.sb.lt;clear h S;go_wp2;go_region_held3 (fun w'=>w'.cell? ⟨b,1,none⟩=some (.slice a1 Q.length c1)/\w'.cell? ⟨b,3,none⟩=some (.slice (some ⟨b',o',none⟩) (1) c2)) ((simp [*]))
   (first
     |(go_at_call 156;refine HG.o.mono ?_;rintro e w1 ⟨⟨ag,cg,rg,rfl,c⟩,s⟩;have d1:=ce s T k1;have d3:=ce s T k3;have HU:=Hi c;have r:=Hi ((Below.refl w.heap.size w).drew.trans s);clear c s))
  clear k0 k1 k2 k3 HG N ah;obtain⟨g,A⟩:=nm (Nat.gcd P.natAbs D.natAbs);have c:=HU.o;rw[A] at c;obtain⟨U,t⟩:=Ia c A;have i:0<g:=by rw[<-A];exact Nat.gcd_pos_of_pos_right _ (by omega)
  have H1:=H.o.below r.o;have a6:rg.length<=([d]).length:=c.len_mono H.o.den (by rw[<-A];exact Nat.le_of_dvd (by omega) (Nat.gcd_dvd_right _ _));clear HU;by_cases V:g=1
  .
   subst V;have ai:rg= [1]:=Qb6 c.num;subst ai;obtain⟨bg,og,rfl,aj,v⟩:=c.row.cell 0 (by simp);have v:w1.cell? ⟨bg,og,none⟩=some (.int .u32 1):=by simpa using v
   clear c A H1;go_wp2;go_ret;refine RatOk.of y.o ?_;rw[<-z.o];obtain⟨C,W⟩:=Qei (P:=P) hD t.o;refine RatOk.of (Only.of_below r.o) ⟨rfl,Only.refl _ _,a1,c1,Q,some ⟨b',o',none⟩,c2,[d],?_⟩;rw[C,W];exact H.o.below r.o
  .
   have p:g ∣ P.natAbs:=by rw[<-A];exact Nat.gcd_dvd_left _ _
   have X:=Hi (Qap a1 ag c1 cg Q rg P.natAbs g w1 H1.num c i (by omega));rcases Qej c.num V with a7|⟨dd,rfl,a8⟩
   .
    clear c A H1;go_wp2_with fail;refine X.o.mono ?_;rintro e w2 ⟨⟨E,F,G,ar,cr,rr,rfl,B,hr⟩,f⟩;have I:=(H.o.below r.o).below f;have ak:=I.c3;obtain⟨HQ,j,J⟩:=Ib B f (Qap (some ⟨b',o',none⟩) _ c2 cg ([d]) _ D.natAbs g w2 I.den (U.o.below f) i (by omega));clear B hr f I;go_wp2_with fail;refine J.o.mono ?_;rintro e K ⟨⟨k,L,rs,al,ct,rt,rfl,Y,ht⟩,m⟩;have H3:=((H.o.below r.o).below j.o).below m;have f1:=H3.sb.free 1;have f3:=H3.sb.free 3;have am:=H3.c1;have an:=H3.c3;obtain⟨HS,x,n⟩:=Ib Y m H3;clear Y ht m H3;go_wp2;go_ret;refine RatOk.of y.o ?_;rw[<-z.o];have M:Only b K ((K.setCell ⟨b,1,none⟩ (.slice E G.length F)).setCell ⟨b,3,none⟩ (.slice k rs.length L)):=((Only.refl b K).setCell _ _).setCell _ _;have Z:g ∣ D.natAbs:=by rw[<-t.o];exact Nat.gcd_dvd_right _ _
    obtain⟨C,W⟩:=Qbu (P:=P) hD t.o;refine RatOk.of (Only.of_below (r.o.trans ((j.o.mono r.o.size).trans (x.o.mono (Nat.le_trans r.o.size j.o.size))))) ⟨rfl,M,E,F,G,k,L,rs,?_,?_,?_⟩
    .
     have:=(n.o.sb.set 1 (.slice E G.length F)).set 3 (.slice k rs.length L);have en:decide ((((mkRat P D.natAbs).den:Nat):Int)<0)=decide (D<0):=by
      apply decide_eq_decide.2;omega
     rw[C,Qbt P g i p,en]
     simpa using this
    . rw[C,Qbs P g i p]
      exact(HQ.o.below x.o).only M n.o.sb (Qab _ _ _ _ _ _ _ _)
    . rw[W,Int.natAbs_natCast]
      exact HS.o.only M n.o.sb (Qab _ _ _ _ _ _ _ _)
   .
    obtain⟨bg,og,rfl,aj,v⟩:=c.row.cell 0 (by simp);have v:w1.cell? ⟨bg,og,none⟩=some (.int .u32 (dd:Int)):=by simpa using v
    have a9:((dd:Int) == 1)=false:=by rw[beq_eq_false_iff_ne];omega
    clear c A H1;go_wp2_with fail;refine X.o.mono ?_;rintro e w2 ⟨⟨E,F,G,ar,cr,rr,rfl,B,hr⟩,f⟩;have I:=(H.o.below r.o).below f;have ak:=I.c3;obtain⟨HQ,j,J⟩:=Ib B f (Qap (some ⟨b',o',none⟩) _ c2 cg ([d]) _ D.natAbs g w2 I.den (U.o.below f) i (by omega));clear B hr f I;go_wp2_with fail;refine J.o.mono ?_;rintro e K ⟨⟨k,L,rs,al,ct,rt,rfl,Y,ht⟩,m⟩;have H3:=((H.o.below r.o).below j.o).below m;have f1:=H3.sb.free 1;have f3:=H3.sb.free 3;have am:=H3.c1;have an:=H3.c3;obtain⟨HS,x,n⟩:=Ib Y m H3;clear Y ht m H3;go_wp2;go_ret;refine RatOk.of y.o ?_;rw[<-z.o];have M:Only b K ((K.setCell ⟨b,1,none⟩ (.slice E G.length F)).setCell ⟨b,3,none⟩ (.slice k rs.length L)):=((Only.refl b K).setCell _ _).setCell _ _;have Z:g ∣ D.natAbs:=by rw[<-t.o];exact Nat.gcd_dvd_right _ _
    obtain⟨C,W⟩:=Qbu (P:=P) hD t.o;refine RatOk.of (Only.of_below (r.o.trans ((j.o.mono r.o.size).trans (x.o.mono (Nat.le_trans r.o.size j.o.size))))) ⟨rfl,M,E,F,G,k,L,rs,?_,?_,?_⟩
    .
     have:=(n.o.sb.set 1 (.slice E G.length F)).set 3 (.slice k rs.length L);have en:decide ((((mkRat P D.natAbs).den:Nat):Int)<0)=decide (D<0):=by
      apply decide_eq_decide.2;omega
     rw[C,Qbt P g i p,en]
     simpa using this
    . rw[C,Qbs P g i p]
      exact(HQ.o.below x.o).only M n.o.sb (Qab _ _ _ _ _ _ _ _)
    . rw[W,Int.natAbs_natCast]
      exact HS.o.only M n.o.sb (Qab _ _ _ _ _ _ _ _)
 .
  have ah:((R.length:Int) == 1)=false:=by rw[beq_eq_false_iff_ne];omega
  obtain⟨H,HG⟩:=Ia h (Qdk a1 (a2) c1 c2 Q (R) P.natAbs D.natAbs w.drew h.num.drew h.den.drew (by omega) (by omega));have T:=h.sb.lt;clear h S;go_wp2;go_region_held3 (fun w'=>w'.cell? ⟨b,1,none⟩=some (.slice a1 Q.length c1)/\w'.cell? ⟨b,3,none⟩=some (.slice (a2) (R.length) c2)) ((simp [*]))
   (first
     |(go_at_call 156;refine HG.o.mono ?_;rintro e w1 ⟨⟨ag,cg,rg,rfl,c⟩,s⟩;have d1:=ce s T k1;have d3:=ce s T k3;have HU:=Hi c;have r:=Hi ((Below.refl w.heap.size w).drew.trans s);clear c s))
  clear k0 k1 k2 k3 HG ah;obtain⟨g,A⟩:=nm (Nat.gcd P.natAbs D.natAbs);have c:=HU.o;rw[A] at c;obtain⟨U,t⟩:=Ia c A;have i:0<g:=by rw[<-A];exact Nat.gcd_pos_of_pos_right _ (by omega)
  have H1:=H.o.below r.o;have a6:rg.length<=(R).length:=c.len_mono H.o.den (by rw[<-A];exact Nat.le_of_dvd (by omega) (Nat.gcd_dvd_right _ _));clear HU;by_cases V:g=1
  .
   subst V;have ai:rg= [1]:=Qb6 c.num;subst ai;obtain⟨bg,og,rfl,aj,v⟩:=c.row.cell 0 (by simp);have v:w1.cell? ⟨bg,og,none⟩=some (.int .u32 1):=by simpa using v
   clear c A H1;go_wp2;go_ret;refine RatOk.of y.o ?_;rw[<-z.o];obtain⟨C,W⟩:=Qei (P:=P) hD t.o;refine RatOk.of (Only.of_below r.o) ⟨rfl,Only.refl _ _,a1,c1,Q,a2,c2,R,?_⟩;rw[C,W];exact H.o.below r.o
  .
   have p:g ∣ P.natAbs:=by rw[<-A];exact Nat.gcd_dvd_left _ _
   have X:=Hi (Qap a1 ag c1 cg Q rg P.natAbs g w1 H1.num c i (by omega));rcases Qej c.num V with a7|⟨dd,rfl,a8⟩
   .
    clear c A H1;go_wp2_with fail;refine X.o.mono ?_;rintro e w2 ⟨⟨E,F,G,ar,cr,rr,rfl,B,hr⟩,f⟩;have I:=(H.o.below r.o).below f;have ak:=I.c3;obtain⟨HQ,j,J⟩:=Ib B f (Qap (a2) _ c2 cg (R) _ D.natAbs g w2 I.den (U.o.below f) i (by omega));clear B hr f I;go_wp2_with fail;refine J.o.mono ?_;rintro e K ⟨⟨k,L,rs,al,ct,rt,rfl,Y,ht⟩,m⟩;have H3:=((H.o.below r.o).below j.o).below m;have f1:=H3.sb.free 1;have f3:=H3.sb.free 3;have am:=H3.c1;have an:=H3.c3;obtain⟨HS,x,n⟩:=Ib Y m H3;clear Y ht m H3;go_wp2;go_ret;refine RatOk.of y.o ?_;rw[<-z.o];have M:Only b K ((K.setCell ⟨b,1,none⟩ (.slice E G.length F)).setCell ⟨b,3,none⟩ (.slice k rs.length L)):=((Only.refl b K).setCell _ _).setCell _ _;have Z:g ∣ D.natAbs:=by rw[<-t.o];exact Nat.gcd_dvd_right _ _
    obtain⟨C,W⟩:=Qbu (P:=P) hD t.o;refine RatOk.of (Only.of_below (r.o.trans ((j.o.mono r.o.size).trans (x.o.mono (Nat.le_trans r.o.size j.o.size))))) ⟨rfl,M,E,F,G,k,L,rs,?_,?_,?_⟩
    .
     have:=(n.o.sb.set 1 (.slice E G.length F)).set 3 (.slice k rs.length L);have en:decide ((((mkRat P D.natAbs).den:Nat):Int)<0)=decide (D<0):=by
      apply decide_eq_decide.2;omega
     rw[C,Qbt P g i p,en]
     simpa using this
    . rw[C,Qbs P g i p]
      exact(HQ.o.below x.o).only M n.o.sb (Qab _ _ _ _ _ _ _ _)
    . rw[W,Int.natAbs_natCast]
      exact HS.o.only M n.o.sb (Qab _ _ _ _ _ _ _ _)
   .
    obtain⟨bg,og,rfl,aj,v⟩:=c.row.cell 0 (by simp);have v:w1.cell? ⟨bg,og,none⟩=some (.int .u32 (dd:Int)):=by simpa using v
    have a9:((dd:Int) == 1)=false:=by rw[beq_eq_false_iff_ne];omega
    clear c A H1;go_wp2_with fail;refine X.o.mono ?_;rintro e w2 ⟨⟨E,F,G,ar,cr,rr,rfl,B,hr⟩,f⟩;have I:=(H.o.below r.o).below f;have ak:=I.c3;obtain⟨HQ,j,J⟩:=Ib B f (Qap (a2) _ c2 cg (R) _ D.natAbs g w2 I.den (U.o.below f) i (by omega));clear B hr f I;go_wp2_with fail;refine J.o.mono ?_;rintro e K ⟨⟨k,L,rs,al,ct,rt,rfl,Y,ht⟩,m⟩;have H3:=((H.o.below r.o).below j.o).below m;have f1:=H3.sb.free 1;have f3:=H3.sb.free 3;have am:=H3.c1;have an:=H3.c3;obtain⟨HS,x,n⟩:=Ib Y m H3;clear Y ht m H3;go_wp2;go_ret;refine RatOk.of y.o ?_;rw[<-z.o];have M:Only b K ((K.setCell ⟨b,1,none⟩ (.slice E G.length F)).setCell ⟨b,3,none⟩ (.slice k rs.length L)):=((Only.refl b K).setCell _ _).setCell _ _;have Z:g ∣ D.natAbs:=by rw[<-t.o];exact Nat.gcd_dvd_right _ _
    obtain⟨C,W⟩:=Qbu (P:=P) hD t.o;refine RatOk.of (Only.of_below (r.o.trans ((j.o.mono r.o.size).trans (x.o.mono (Nat.le_trans r.o.size j.o.size))))) ⟨rfl,M,E,F,G,k,L,rs,?_,?_,?_⟩
    .
     have:=(n.o.sb.set 1 (.slice E G.length F)).set 3 (.slice k rs.length L);have en:decide ((((mkRat P D.natAbs).den:Nat):Int)<0)=decide (D<0):=by
      apply decide_eq_decide.2;omega
     rw[C,Qbt P g i p,en]
     simpa using this
    . rw[C,Qbs P g i p]
      exact(HQ.o.below x.o).only M n.o.sb (Qab _ _ _ _ _ _ _ _)
    . rw[W,Int.natAbs_natCast]
      exact HS.o.only M n.o.sb (Qab _ _ _ _ _ _ _ _)
theorem Qsd(b:Nat)(H I J K:Value)(L M:Nat)(A:Int)(V:Vx)(c1:Nat)(E:Vy)(N O:Nat)(B:Int)(W:Vx)(c2:Nat)(n:Vy)(w:Vz)
 (P:SB w b 124 #[H,I,J,K]) (X:NoInt #[H,I,J,K]) (Q:IntAt w L M A V c1 E) (p:IntAt w N O B W c2 n) (hB:B<0) (h1:E.length<1099511627770) (h2:n.length<1099511627770):
 Calls prog 68 #[.pointer (some ⟨b,0,none⟩),.pointer (some ⟨L,M,none⟩),.pointer (some ⟨N,O,none⟩)] w (RatOk w b (mkRat (-A) B.natAbs)):=by
 have k1:=p.abs;have q1:((n.length:Int) == 0)=false:=by
  rw[beq_eq_false_iff_ne];have:=(p.num.num.len_zero (by decide)).2;omega
 obtain⟨Y,Z,HA,q⟩:=Ic P X Q p;have aa:=P.lt;have ab:=Q.lt;have ad:=p.lt;clear P X Q p;replace hB:=Hi hB;go_enter func68,ntmps68;go_wp2_with fail;have i:Below w.heap.size w (w.alloc (.cells #[.bool false,.slice none 0 0] 122)):=bR.alloc lZ _;refine(Qc0 w.heap.size 0 122 _ L M A V c1 E _ (SB.new w 122 _) Tryz.int_zero (by simp) (HA.o.below i) (by omega)).mono ?_;rintro e w1 ⟨rfl,r,s,l,F⟩;have j:Below w.heap.size w w1:=Only.fresh i F.only lZ;have ae:w.heap.size<w1.heap.size:=by have:=F.only.size;simp at this;omega
 have f:Below w1.heap.size w1 (w1.alloc (.cells #[.bool false,.slice none 0 0] 122)):=bR.alloc lZ _;obtain⟨R,HP,t,u⟩:=Ic (Qc0 w1.heap.size 0 122 _ N O B W c2 n _ (SB.new w1 122 _) Tryz.int_zero (by simp) ((q.o.below j).below f) (by omega)) F j f;clear F j i f;go_wp2_with fail;refine R.o.mono ?_;rintro e w2 ⟨rfl,v,x,m,S⟩;have g:Below w1.heap.size w1 w2:=Only.fresh u.o S.only lZ;have c:=(HP.o.at (by simp)).below g;have d:=S.at (by simp);have a:=((Y.o.below t.o Y.o.lt).below g (by omega));have p0:=c.neg;have p1:=c.abs;have r0:=d.neg;have r1:=d.abs;have z0:w2.cell? ⟨b,0,none⟩=some H:=by rw[a.cell];rfl
 have z1:w2.cell? ⟨b,1,none⟩=some I:=by rw[a.cell];rfl
 have z2:w2.cell? ⟨b,2,none⟩=some J:=by rw[a.cell];rfl
 have z3:w2.cell? ⟨b,3,none⟩=some K:=by rw[a.cell];rfl
 have f0:=a.free 0;have f1:=a.free 1;have f2:=a.free 2;have f3:=a.free 3;obtain⟨y,z,k,T⟩:=Ic c d a g;clear S c d a g;simp only[Nat.zero_add] at p1 r1;go_wp2_with fail;have G:Only b w2 ((((w2.setCell ⟨b,0,none⟩ (.bool (decide (A<0)))).setCell ⟨b,1,none⟩ (.slice r l.length s)).setCell ⟨b,2,none⟩ (.bool (decide (B<0)))).setCell ⟨b,3,none⟩ (.slice v m.length x)):=
  ((((Only.refl b w2).setCell _ _).setCell _ _).setCell _ _).setCell _ _
 have h:RatAt ((((w2.setCell ⟨b,0,none⟩ (.bool (decide (A<0)))).setCell ⟨b,1,none⟩ (.slice r l.length s)).setCell ⟨b,2,none⟩ (.bool (decide (B<0)))).setCell ⟨b,3,none⟩ (.slice v m.length x)) b A B r s l v x m:=by
  refine⟨?_,y.o.num.only G k.o Z.o,z.o.num.only G k.o Z.o⟩;have:=(((k.o.set 0 (.bool (decide (A<0)))).set 1 (.slice r l.length s)).set 2 (.bool (decide (B<0)))).set 3 (.slice v m.length x)
  simpa using this
 have af:l.length<=E.length:=y.o.num.len_mono HA.o.num lZ;have ag:m.length<=n.length:=z.o.num.len_mono q.o.num lZ;refine(Qsc b A B r v s x l m _ h hB.o (by omega) (by omega)).mono ?_;rintro e w3 C;have D:RatOk w b (mkRat (-A) B.natAbs) e w3:=RatOk.of ((Only.of_below (t.o.trans (T.o.mono (by omega)))).trans G) C;obtain⟨rfl,U,hr⟩:=D;clear C G h;go_wp2;go_ret;exact⟨rfl,U,hr⟩
theorem Bag.setFracN{w0 w:Vz}{Z:Vy}{L:List Thing}{c d f g i n o:Nat}{A B:Int}(h:Bag w0 w Z L)(p:.room c∈ L)(j:.int d f A n∈ L)(k:.int g i B o∈ L)(hB:B<0)(x:n<1099511627770)(y:o<1099511627770):
 Calls prog 68 #[.pointer (some ⟨c,0,none⟩),.pointer (some ⟨d,f,none⟩),.pointer (some ⟨g,i,none⟩)] w (RatOk w0 c (mkRat (-A) B.natAbs)):=by
 obtain⟨⟨q,r,s,t,u,v⟩,_⟩:=h.ts _ p;obtain⟨⟨a,cap,l,j,z⟩,_⟩:=h.ts _ j;obtain⟨⟨b,cap',m,k,C⟩,_⟩:=h.ts _ k;refine(Qsd c q r s t d f A a cap l g i B b cap' m w u v j k hB (by omega) (by omega)).mono ?_;intro e w' hk;exact RatOk.of (Only.of_below h.base) hk
theorem Qse(p q:Rat)(a:q.num<0):mkRat (-(p.num*(q.den:Int))) ((p.den:Int)*q.num).natAbs=p / q:=by
 have h:0<(-q).num:=by rw[Rat.neg_num];omega
 have b:=Qgj (-p) (-q) h;rw[Rat.neg_num,Rat.neg_den,Rat.neg_num,Rat.neg_den] at b;have e: -p / -q=p / q:=by
  have c:q≠0:=fun e=>by rw[e] at a;exact absurd a (by decide)
  grind
 rw[<-e,<-b]
 congr 1
 . grind
 . rw[Int.natAbs_mul,Int.natAbs_mul,Int.natAbs_neg]
theorem Qsf(i bx r j k:Nat)(p q:Rat)(w:Vz)(s:(Thing.room i).holds w)(t:RatVal w bx p)(u:RatVal w r q)(v:Fits p j)(x:Fits q k)(B:j+k<274877906000)(d:q.num<0):
 Calls prog 139 #[.pointer (some ⟨i,0,none⟩),.pointer (some ⟨bx,0,none⟩),.pointer (some ⟨r,0,none⟩)] w (RatOk w i (p / q)):=by
 have f:=Qat p;have l:=Qat q;obtain⟨g,y,b⟩:=Ib (Int.mul_neg_of_pos_of_neg f d) (Qse p q d) (Bag.two t u s v x);clear t u s v x f l;go_enter func139,ntmps139;go_wp2;go_region_held3 (fun _=>True) (trivial) (first
  |
   (go_at_call 72
    apply cM;apply Bag.mul (w0:=w);(focus(repeat(first|exact b.o|apply Bag.alloc|apply Bag.drew)));(focus(simp only[mem_less,List.mem_cons,List.not_mem_nil,or_false,size_drew,World.size_alloc,true_or,or_true,true_and,and_true]<;>omega));(focus(repeat(first|exact mH|apply mT)));(focus(repeat(first|exact mH|apply mT)));omega;rintro e w1 ⟨rfl,a,c,m⟩;clear b;have b:=Hi a;clear a
    (try simp only[size_drew,World.size_alloc] at c))
  |
   (go_at_call 70
    apply cM;apply Bag.den (w0:=w);(focus(repeat(first|exact b.o|apply Bag.alloc|apply Bag.drew)));(focus(repeat(first|exact mH|apply mT)));rintro e w1 ⟨b1,C,rfl,a,c⟩;clear b;have b:=Hi a;clear a
    (try simp only[size_drew,World.size_alloc] at c))
  |
   (go_at_call 72
    apply cM;apply Bag.mul (w0:=w);(focus(repeat(first|exact b.o|apply Bag.alloc|apply Bag.drew)));(focus(simp only[mem_less,List.mem_cons,List.not_mem_nil,or_false,size_drew,World.size_alloc,true_or,or_true,true_and,and_true]<;>omega));(focus(repeat(first|exact mH|apply mT)));(focus(repeat(first|exact mH|apply mT)));omega;rintro e w1 ⟨rfl,a,c,m⟩;clear b;have b:=Hi a;clear a
    (try simp only[size_drew,World.size_alloc] at c))
  |
   (go_at_call 68
    apply cM;apply Bag.setFracN (w0:=w);(focus(repeat(first|exact b.o|apply Bag.alloc|apply Bag.drew)));(focus(repeat(first|exact mH|apply mT)));(focus(repeat(first|exact mH|apply mT)));(focus(repeat(first|exact mH|apply mT)));exact g.o;omega;omega;rintro e D h;have z:=Hi h;obtain⟨rfl,n,A⟩:=h
    clear b n A)
  )
 all_goals
  go_wp2;go_ret;rw[<-y.o];exact z.o
theorem Qsg(a bx b j k:Nat)(p q:Rat)(w:Vz)(c:(Thing.room a).holds w)(d:RatVal w bx p)(e:RatVal w b q)(f:Fits p j)(g:Fits q k)(i:j+k<274877906000)(l:q.num≠0):
 Calls prog 139 #[.pointer (some ⟨a,0,none⟩),.pointer (some ⟨bx,0,none⟩),.pointer (some ⟨b,0,none⟩)] w (RatOk w a (p / q)):=by
 by_cases h:0<q.num
 . exact Qsb a bx b j k p q w c d e f g i h
 . exact Qsf a bx b j k p q w c d e f g i (by omega)
theorem Qsh(bx c j k:Nat)(p q:Rat)(w:Vz)(f:RatVal w bx p)(g:RatVal w c q)(h:Fits p j)(i:Fits q k)(l:j+k<274877906000)(a:q.num≠0):
 Calls prog 89 #[.pointer (some ⟨bx,0,none⟩),.pointer (some ⟨c,0,none⟩)] w (NewRat w (p / q)):=by
 have m:=Hi (Qsg w.heap.size bx c j k p q _ (Qcm w) (f.alloc _) (g.alloc _) h i l a);clear f g h i l a;go_enter func89,ntmps89;go_wp2_with fail;refine m.o.mono ?_;rintro e w1 b;have n:=Hi (RatOk.new b);obtain⟨rfl,d,r⟩:=b;clear d r m;go_wp2;go_ret;exact n.o
theorem Qsi(p q:Rat)(a:q.num≠0): -p / -q=p / q:=by
 have b:q≠0:=fun e=>a (by rw[e];rfl)
 grind
theorem Fits.quoA{p q:Rat}{j k:Nat}(h:Fits p j)(a:Fits q k)(b:0<j)(c:q.num≠0):Fits (p / q) (j+k):=by
 by_cases d:0<q.num
 . exact h.quo a b d
 . rw[<-Qsi p q c]
   exact h.neg.quo a.neg b (by rw[Rat.neg_num];omega)
theorem RBag.quoA{w0 w:Vz}{L:List (Nat × Rat × Nat)}{bx c j k:Nat}{p q:Rat}(h:RBag w0 w L)(g:(bx,p,j)∈ L)(i:(c,q,k)∈ L)(l:j+k<274877906000)(m:q≠0):
 Calls prog 89 #[.pointer (some ⟨bx,0,none⟩),.pointer (some ⟨c,0,none⟩)] w (RNew w0 L (p / q) (j+k)):=by
 have a:=h.ts _ g;have b:=h.ts _ i;have n:0<j:=a.2.2;have f:q.num≠0:=fun e=>m (Rat.num_eq_zero.1 e)
 exact(Qsh bx c j k p q w a.1 b.1 a.2.1 b.2.1 l f).mono fun e w' d=>h.new d (a.2.1.quoA b.2.1 n f) (by omega)
end Go.Proofs.YtppkmifkpjkgpaaGreatDoor
