import Derived.Test.YtfgclhpgdanmfaaGreatDoorS12NumNat
import Derived.Shelf.Strings.Builder1
import Derived.Shelf.Strconv.Itoa1
import Derived.Shelf.Strconv.Itoa2
import Derived.Lib.ItoaMem
import Derived.Lib.AppendIntMem
import Derived.BigCall
import Derived.BigGuard
import Derived.Lib.Builder
import Derived.Lib.AppendStr
import Derived.Lib.UnsafeStr
import Derived.Laws.Externs
namespace Go.Proofs.YtfgclhpgdanmfaaGreatDoor
set_option linter.defProp false
open Go.RowKit
open Go.Proofs.Tryz
set_option linter.unusedSimpArgs false
set_option linter.unusedVariables false
set_option maxHeartbeats 8000000
set_option maxRecDepth 1000000
variable{w:Vz}{a:Bool}{b d e:Ac}{p:Rat}{s t:Vu}{i j:Nat}
def jr.drew{neg:Bool}{a b:Vx}{n c m d:Nat}{q:Rat}(h:jr w neg a n c b m d q):jr w.drew neg a n c b m d q:=h.below bR.drew
def Xw{q:Rat}{c r:Bool}{t:Nat}(d:a=decide (p.num<0))(f:c=decide (q.num<0))(h:kJ r t=kJ a (p.num.natAbs*(q.den / Nat.gcd p.den q.den))+kJ c (q.num.natAbs*(p.den / Nat.gcd p.den q.den))):
 mkRat (kJ r (t / Nat.gcd t (Nat.gcd p.den q.den))) (p.den / Nat.gcd p.den q.den*(q.den / Nat.gcd t (Nat.gcd p.den q.den)))=p+q/\Nat.Coprime (t / Nat.gcd t (Nat.gcd p.den q.den)) (p.den / Nat.gcd p.den q.den*(q.den / Nat.gcd t (Nat.gcd p.den q.den))):=by
 refine Xx p q rfl ?_ rfl;have e:∀(b:Bool)(u v:Nat),kJ b (u*v)=kJ b u*(v:Int):=fun b u v=>by have:=FI b false u v;rw[rz]at this;exact this
 rw[h,e,e,d,f,EN,EN]
def PY(E F:Bool)(G bx H b2:Vx)(I J K L M N P Q i j:Nat)(p q:Rat)(w:Vz)(X:jr w E G I J bx K L p)(Y:jr w F H M N b2 P Q q)(Z:Fits p i)(hq:Fits q j)(aj:i+j<68719476000):
 Calls prog 54 #[.agg #[.bool E,.slice G I J,.slice bx K L],.agg #[.bool F,.slice H M N,.slice b2 P Q]] w (nP w (p+q)):=by
 obtain⟨HX,HY,aa,ab⟩:=Ic X Y Z hq;obtain⟨c,ad,a,u,b,ae,af,ak,al,R⟩:=I4 X Y Z hq;have am:w.heap.size+1+1≠w.heap.size:=oO;have ao:w.heap.size+1+1≠w.heap.size+1:=oO;clear X Y Z hq;have d:=Hi (show 0<Nat.gcd p.den q.den from eQ _ q.den_pos);go_enter func54,ntmps54;obtain⟨f,g,h,k,l,m⟩:=R.o _ a.o.base;go_wp2_with fail;rw[show (((w.alloc (.cells #[.bool E,.slice G I J,.slice bx K L] 99)).alloc (.cells #[.bool F,.slice H M N,.slice b2 P Q] 99)).alloc (.cells #[.bool false,.slice none 0 0,.slice none 0 0] 99))=c from ad.o];go_region_held3
  (fun w'=>w'.cell? ⟨w.heap.size,0,none⟩=some (.bool E)/\w'.cell? ⟨w.heap.size,1,none⟩=some (.slice G I J)/\w'.cell? ⟨w.heap.size,2,none⟩=some (.slice bx K L)/\w'.cell? ⟨w.heap.size+1,0,none⟩=some (.bool F)/\w'.cell? ⟨w.heap.size+1,1,none⟩=some (.slice H M N)/\w'.cell? ⟨w.heap.size+1,2,none⟩=some (.slice b2 P Q)) ((first|(simp [*];done)|go_keep))
  (first
  |
   (go_at_call_of 105 (Value.agg #[.bool E,.slice G I J,.slice bx K L])
    apply cM;apply fQ.under (w0:=c) (hl:=ae.o) (hk:=aa.o.2);(focus(first|exact a.o|exact a.o.drew|exact a.o.drew.drew));rintro e w3 ⟨aA,nA,cA,rfl,hb⟩;clear a;have a:=Hi hb;clear hb;obtain⟨f,g,h,k,l,m⟩:=R.o _ a.o.base
    skip)
  |
   (go_at_call_of 105 (Value.agg #[.bool F,.slice H M N,.slice b2 P Q])
    apply cM;apply fQ.under (w0:=c) (hl:=af.o) (hk:=ab.o.2);(focus(first|exact a.o|exact a.o.drew|exact a.o.drew.drew));rintro e w4 ⟨aB,nB,cB,rfl,hb⟩;clear a;have a:=Hi hb;clear hb;obtain⟨f,g,h,k,l,m⟩:=R.o _ a.o.base
    skip)
  )
 go_wp2_with
  ((skip
    first
     |(
      go_at_call 106;apply cM
      apply zS (w0:=c))
     |(
      go_at_call 107;apply cM
      apply CY (w0:=c))
     |(
      go_at_call 109;apply cM
      apply DM (w0:=c))
     |(
      go_at_call 108;apply cM
      apply fQ.sg (w0:=c))
    (focus(first|exact a.o|exact a.o.drew|exact a.o.drew.drew));(repeat(first|exact mH|apply mT));omega
    try (focus(exact d.o))
    first
     |rintro e S ⟨an,nn,cn,rfl,hb⟩
     |(
      rintro e S ⟨r,aT,V,cT,t,rfl,hb,x⟩;have HT:=Hi x
      clear x)
    clear a;have a:=Hi hb;clear hb;obtain⟨f,g,h,k,l,m⟩:=R.o _ a.o.base
    skip))
 go_region_held3
  (fun w'=>w'.cell? ⟨w.heap.size,0,none⟩=some (.bool E)/\w'.cell? ⟨w.heap.size,1,none⟩=some (.slice G I J)/\w'.cell? ⟨w.heap.size,2,none⟩=some (.slice bx K L)/\w'.cell? ⟨w.heap.size+1,0,none⟩=some (.bool F)/\w'.cell? ⟨w.heap.size+1,1,none⟩=some (.slice H M N)/\w'.cell? ⟨w.heap.size+1,2,none⟩=some (.slice b2 P Q)) ((first|(simp [*];done)|go_keep))
  ((skip
    first
     |(
      go_at_call 106;apply cM
      apply zS (w0:=c))
     |(
      go_at_call 107;apply cM
      apply CY (w0:=c))
     |(
      go_at_call 109;apply cM
      apply DM (w0:=c))
     |(
      go_at_call 108;apply cM
      apply fQ.sg (w0:=c))
    (focus(first|exact a.o|exact a.o.drew|exact a.o.drew.drew));(repeat(first|exact mH|apply mT));omega
    try (focus(exact d.o))
    first
     |rintro e S ⟨an,nn,cn,rfl,hb⟩
     |(
      rintro e S ⟨r,aT,V,cT,t,rfl,hb,x⟩;have HT:=Hi x
      clear x)
    clear a;have a:=Hi hb;clear hb;obtain⟨f,g,h,k,l,m⟩:=R.o _ a.o.base
    skip))
 have hE:=Xw HX.o.neg HY.o.neg HT.o;have A:0<Nat.gcd t (Nat.gcd p.den q.den):=eQ _ d.o;have HZ:=Hi (a.o.get (bM _)).1.pB;obtain⟨ag,HE,T,ah⟩:=Ic A hE.1 hE.2 (show 0<p.den / Nat.gcd p.den q.den*(q.den / Nat.gcd t (Nat.gcd p.den q.den)) from gL (BV (CA _ p.den_pos) d.o) (BV (aE (sK _ d.o) (sK _ q.den_pos)) A));clear hE A;by_cases n:t=0
 . have ai:((V:Int) == 0)=true:=by have:=HZ.o.1 n;simp[this]
   have B:O (p+q=0):=Hi (by rw[<-HE.o,n,Nat.zero_div,P4,EC]);clear HE T n;have C:=u.o.below a.o.base u.o.lt;obtain⟨k0,k1,k2,f0,f1,f2⟩:=C.fz;obtain⟨s,D⟩:=Ia C (b.o.trans (a.o.base.mono b.o.size));clear C a;go_wp2;refine bK (v:=.agg #[.bool false,.slice none 0 0,.slice none 0 0]) (bG rfl _ _ (w.heap.size+1+1) 99 #[.bool false,.slice none 0 0,.slice none 0 0] (0,0) _ rfl (((s.o.set 0 _).set 1 _).set 2 _) underlying99 rfl mm) rfl ?_;have ho:=(((cX (w.heap.size+1+1) S).setCell 0 (.bool false)).setCell 1 (.slice none 0 0)).setCell 2 (.slice none 0 0);exact⟨⟨_,rfl,by first|exact nR _|(rw [B.o];exact nR _)⟩,fU D.o ho oO⟩
 .
  have ai:((V:Int) == 0)=false:=by rw[aJ];have:=HZ.o.2;omega
  clear n;go_wp2_with
   ((skip
     first
      |(
       go_at_call 106;apply cM
       apply zS (w0:=c))
      |(
       go_at_call 107;apply cM
       apply CY (w0:=c))
      |(
       go_at_call 109;apply cM
       apply DM (w0:=c))
      |(
       go_at_call 108;apply cM
       apply fQ.sg (w0:=c))
     (focus(first|exact a.o|exact a.o.drew|exact a.o.drew.drew));(repeat(first|exact mH|apply mT));omega
     try (focus(first|exact d.o|exact ag.o))
     first
      |rintro e S ⟨an,nn,cn,rfl,hb⟩
      |(
       rintro e S ⟨r,aT,V,cT,t,rfl,hb,x⟩;have HT:=Hi x
       clear x)
     clear a;have a:=Hi hb;clear hb;obtain⟨f,g,h,k,l,m⟩:=R.o _ a.o.base
     skip))
  have U:=Hi (u.o.below a.o.base u.o.lt);have y:=Hi (b.o.trans (a.o.base.mono b.o.size));clear u b;have u:=U;have b:=y;clear U y;apply cM;apply fQ.Bb (w0:=c) a.o;(repeat(first|exact mH|apply mT));(focus(exact ah.o));(focus(exact T.o));rw[HE.o];rintro e w9 ⟨⟨v9,rfl,W⟩,hb⟩;obtain⟨z,a9,n9,c9,b9,m9,d9,rfl,W⟩:=W;have C:=u.o.below hb u.o.lt;obtain⟨k0,k1,k2,f0,f1,f2⟩:=C.fz;obtain⟨HV,s,D⟩:=Ib W C (b.o.trans (hb.mono b.o.size));clear W C hb;go_wp2;refine bK (v:=.agg #[.bool z,.slice a9 n9 c9,.slice b9 m9 d9]) (bG rfl _ _ (w.heap.size+1+1) 99 #[.bool z,.slice a9 n9 c9,.slice b9 m9 d9] (0,0) _ rfl (((s.o.set 0 _).set 1 _).set 2 _) underlying99 rfl mm) rfl ?_;exact Ji HV.o s.o D.o oO
def Xv{q:Rat}(a:eF w d p)(b:eF w e q)(f:Fits p i)(g:Fits q j)(c:i+j<68719476000):Calls prog 54 #[d,e] w (nP w (p+q)):=by obtain⟨h,k,l,m,bx,n,o,rfl,a⟩:=a;obtain⟨r,s,t,u,b2,v,x,rfl,b⟩:=b;exact PY h r k bx s b2 l m n o t u v x i j p q w a b f g c
def I3{q:Rat}(a:eF w d p)(b:eF w e q)(f:Fits p i)(g:Fits q j)(c:i+j<68719476000):Calls prog 55 #[d,e] w (nP w (p*q)):=by obtain⟨h,k,l,m,bx,n,o,rfl,a⟩:=a;obtain⟨r,s,t,u,b2,v,x,rfl,b⟩:=b;exact P5 h r k bx s b2 l m n o t u v x i j p q w a b f g c
def Xu(y z:Bool)(A bx B b2:Vx)(C D E F G H I J i j:Nat)(p q:Rat)(w:Vz)(K:jr w y A C D bx E F p)(L:jr w z B G H b2 I J q)(M:Fits p i)(N:Fits q j)(ab:i+j<68719476000):
 Calls prog 47 #[.agg #[.bool y,.slice A C D,.slice bx E F],.agg #[.bool z,.slice B G H,.slice b2 I J]] w (nP w (p - q)):=by
 rw[oD];obtain⟨HX,HY,P,Q⟩:=Ic K L M N;obtain⟨c,R,Z,HS,d,ad,ae,af,ag,S⟩:=I4 K L M N;have ah:w.heap.size+1+1≠w.heap.size:=oO;have ai:w.heap.size+1+1≠w.heap.size+1:=oO;clear K L M N;go_enter func47,ntmps47;obtain⟨m,n,r,s,t,u⟩:=S.o _ Z.o.base;go_wp2_with fail;rw[show (((w.alloc (.cells #[.bool y,.slice A C D,.slice bx E F] 99)).alloc (.cells #[.bool z,.slice B G H,.slice b2 I J] 99)).alloc (.cells #[.bool false,.slice none 0 0,.slice none 0 0] 99))=c from R.o];have T:=P;obtain⟨U,V,h⟩:=Ib Q.o.neg (HX.o.below d.o) (HY.o.below d.o);go_region_held3
  (fun w'=>w'.cell? ⟨w.heap.size,0,none⟩=some (.bool y)/\w'.cell? ⟨w.heap.size,1,none⟩=some (.slice A C D)/\w'.cell? ⟨w.heap.size,2,none⟩=some (.slice bx E F)/\w'.cell? ⟨w.heap.size+1,0,none⟩=some (.bool z)/\w'.cell? ⟨w.heap.size+1,1,none⟩=some (.slice B G H)/\w'.cell? ⟨w.heap.size+1,2,none⟩=some (.slice b2 I J)) ((first|(simp [*];done)|go_keep))
  (first
  |(
   go_at_call 98;apply cM;apply Po;(focus(first|exact h.o|exact h.o.drew|exact h.o.drew.drew));rintro e W ⟨⟨v4,rfl,f⟩,hb⟩;obtain⟨aa,a4,n4,c4,b4,m4,d4,rfl,f⟩:=f;have k:=Hi f
   first
    |have a:O (Bl c W):=Hi hb
    |have a:O (Bl c W):=Hi ((ac _ c).drew.trans hb)
    |have a:O (Bl c W):=Hi ((ac _ c).drew.drew.trans hb)
   have l:=Hi (V.o.below a.o);clear f hb Z;obtain⟨m,n,r,s,t,u⟩:=S.o _ a.o
   skip)
  |
   (go_at_call 54
    apply cM;apply PY (i:=i) (j:=j);(focus(first|exact l.o|exact l.o.drew|exact l.o.drew.drew));(focus(first|exact k.o|exact k.o.drew|exact k.o.drew.drew));(focus(exact T.o));(focus(exact U.o));omega;rintro e w9 ⟨⟨v9,rfl,f⟩,hb⟩;obtain⟨g,a9,n9,c9,b9,m9,d9,rfl,f⟩:=f
    first
     |have b:=a.o.trans (hb.mono a.o.size)
     |have b:=a.o.drew.trans (hb.mono a.o.size)
     |have b:=a.o.drew.drew.trans (hb.mono a.o.size)
    have X:=HS.o.below b HS.o.lt;obtain⟨k0,k1,k2,f0,f1,f2⟩:=X.fz;obtain⟨m,n,r,s,t,u⟩:=S.o _ b;obtain⟨HV,x,Y⟩:=Ib f X (d.o.trans (b.mono d.o.size))
    clear f X hb b)
  )
 all_goals
  go_wp2;refine bK (v:=.agg #[.bool g,.slice a9 n9 c9,.slice b9 m9 d9]) (bG rfl _ _ (w.heap.size+1+1) 99 #[.bool g,.slice a9 n9 c9,.slice b9 m9 d9] (0,0) _ rfl (((x.o.set 0 _).set 1 _).set 2 _) underlying99 rfl mm) rfl ?_;exact Ji HV.o x.o Y.o oO
def Xt(q:Rat)(b:q≠0)(c:a=decide (q.num<0)):mkRat (kJ a q.den) q.num.natAbs=q⁻¹:=by rw[c];exact(PZ b).1
def Fits.inv{q:Rat}(h:Fits q j)(c:q≠0):Fits q⁻¹ j:=by obtain⟨d,e,f⟩:=PZ c;obtain⟨a,b⟩:=P3 (neg:=decide (q.num<0)) f e;rw[d]at a b;exact⟨by rw[a,IW];exact h.2,by rw[b];exact h.1⟩
def Xs(M E:Bool)(N bx F b2:Vx)(P Q R S G H I J i j:Nat)(p q:Rat)(w:Vz)(U:jr w M N P Q bx R S p)(V:jr w E F G H b2 I J q)(W:Fits p i)(X:Fits q j)(aj:i+j<68719476000):
 Calls prog 56 #[.agg #[.bool M,.slice N P Q,.slice bx R S],.agg #[.bool E,.slice F G H,.slice b2 I J]] w (nP w (p / q)):=by
 rw[lE];obtain⟨HX,HY,Y,K⟩:=Ic U V W X;obtain⟨g,Z,a,T,d,ak,aa,al,am,L⟩:=I4 U V W X;have an:w.heap.size+1+1≠w.heap.size:=oO;have ao:w.heap.size+1+1≠w.heap.size+1:=oO;clear U V W X;go_enter func56,ntmps56;obtain⟨k,l,m,n,r,s⟩:=L.o _ a.o.base;go_wp2_with fail;rw[show (((w.alloc (.cells #[.bool M,.slice N P Q,.slice bx R S] 99)).alloc (.cells #[.bool E,.slice F G H,.slice b2 I J] 99)).alloc (.cells #[.bool false,.slice none 0 0,.slice none 0 0] 99))=g from Z.o];by_cases t:q.num.natAbs=0
 . have f:q=0:=jA.1 oO;have z:=Hi (show p*q⁻¹=0 by rw[f,Rat.inv_zero,JD]);apply cM;apply fQ.isZero (w0:=g) a.o;(repeat(first|exact mH|apply mT));rw[(dC t)];rintro e w2 ⟨rfl,hb⟩;have A:=T.o.below hb.base T.o.lt;obtain⟨k0,k1,k2,f0,f1,f2⟩:=A.fz;obtain⟨u,B⟩:=Ia A (d.o.trans (hb.base.mono d.o.size));clear hb A a;go_wp2;refine bK (v:=.agg #[.bool false,.slice none 0 0,.slice none 0 0]) (bG rfl _ _ (w.heap.size+1+1) 99 #[.bool false,.slice none 0 0,.slice none 0 0] (0,0) _ rfl (((u.o.set 0 _).set 1 _).set 2 _) underlying99 rfl mm) rfl ?_;have ho:=(((cX (w.heap.size+1+1) w2).setCell 0 (.bool false)).setCell 1 (.slice none 0 0)).setCell 2 (.slice none 0 0);exact⟨⟨_,rfl,by first|exact nR _|(rw [z.o];exact nR _)⟩,fU B.o ho oO⟩
 .
  have f:q≠0:=fun h=>t (by rw[h];rfl)
  apply cM;apply fQ.isZero (w0:=g) a.o;(repeat(first|exact mH|apply mT));rw[(bS t)];rintro e w2 ⟨rfl,hb⟩;clear a;have a:=Hi hb;clear hb;obtain⟨k,l,m,n,r,s⟩:=L.o _ a.o.base;go_wp2_with fail;obtain⟨ab,ad,ae⟩:=Ib (Xt q f HY.o.neg) (Nat.Coprime.symm q.reduced) (show 0<q.num.natAbs by omega);have af:=Y;obtain⟨ag,ah⟩:=Ia (K.o.inv f) (HX.o.below d.o);clear f t;go_region_held3
   (fun w'=>w'.cell? ⟨w.heap.size,0,none⟩=some (.bool M)/\w'.cell? ⟨w.heap.size,1,none⟩=some (.slice N P Q)/\w'.cell? ⟨w.heap.size,2,none⟩=some (.slice bx R S)/\w'.cell? ⟨w.heap.size+1,0,none⟩=some (.bool E)/\w'.cell? ⟨w.heap.size+1,1,none⟩=some (.slice F G H)/\w'.cell? ⟨w.heap.size+1,2,none⟩=some (.slice b2 I J)) ((first|(simp [*];done)|go_keep))
   (first
   |
    (go_at_call_of 105 (Value.agg #[.bool E,.slice F G H,.slice b2 I J])
     apply cM;apply fQ.under (w0:=g) (hl:=aa.o) (hk:=K.o.2);(focus(first|exact a.o|exact a.o.drew|exact a.o.drew.drew));rintro e w3 ⟨aB,nB,cB,rfl,hb⟩;clear a;have a:=Hi hb;clear hb;obtain⟨k,l,m,n,r,s⟩:=L.o _ a.o.base
     skip)
   |(
    go_at_call 102;apply cM;apply fQ.Bb (w0:=g);(focus(first|exact a.o|exact a.o.drew|exact a.o.drew.drew));(repeat(first|exact mH|apply mT));(focus(exact ae.o));(focus(exact ad.o));rw[ab.o];rintro e w4 ⟨⟨v4,rfl,x⟩,hb⟩;obtain⟨ai,a4,n4,c4,b4,m4,d4,rfl,x⟩:=x;have C:=Hi x
    first
     |have b:=Hi (a.o.base.trans (hb.mono a.o.base.size))
     |have b:O (Bl g w4):=Hi (a.o.base.drew.trans (hb.mono a.o.base.size))
     |have b:O (Bl g w4):=Hi (a.o.base.drew.drew.trans (hb.mono a.o.base.size))
    have D:=Hi (ah.o.below b.o);clear x hb a;obtain⟨k,l,m,n,r,s⟩:=L.o _ b.o
    skip)
   |
    (go_at_call 55
     apply cM;apply P5 (i:=i) (j:=j);(focus(first|exact D.o|exact D.o.drew|exact D.o.drew.drew));(focus(first|exact C.o|exact C.o.drew|exact C.o.drew.drew));(focus(exact af.o));(focus(exact ag.o));omega;rintro e w9 ⟨⟨v9,rfl,x⟩,hb⟩;obtain⟨y,a9,n9,c9,b9,m9,d9,rfl,x⟩:=x
     first
      |have c:=b.o.trans (hb.mono b.o.size)
      |have c:=b.o.drew.trans (hb.mono b.o.size)
      |have c:=b.o.drew.drew.trans (hb.mono b.o.size)
     have A:=T.o.below c T.o.lt;obtain⟨k0,k1,k2,f0,f1,f2⟩:=A.fz;obtain⟨k,l,m,n,r,s⟩:=L.o _ c;obtain⟨HV,u,B⟩:=Ib x A (d.o.trans (c.mono d.o.size))
     clear x A hb c)
   )
  all_goals
   go_wp2;refine bK (v:=.agg #[.bool y,.slice a9 n9 c9,.slice b9 m9 d9]) (bG rfl _ _ (w.heap.size+1+1) 99 #[.bool y,.slice a9 n9 c9,.slice b9 m9 d9] (0,0) _ rfl (((u.o.set 0 _).set 1 _).set 2 _) underlying99 rfl mm) rfl ?_;exact Ji HV.o u.o B.o oO
def CP{q:Rat}(a:eF w d p)(b:eF w e q)(f:Fits p i)(g:Fits q j)(c:i+j<68719476000):Calls prog 47 #[d,e] w (nP w (p - q)):=by obtain⟨h,k,l,m,bx,n,o,rfl,a⟩:=a;obtain⟨r,s,t,u,b2,v,x,rfl,b⟩:=b;exact Xu h r k bx s b2 l m n o t u v x i j p q w a b f g c
def FH{q:Rat}(a:eF w d p)(b:eF w e q)(f:Fits p i)(g:Fits q j)(c:i+j<68719476000):Calls prog 56 #[d,e] w (nP w (p / q)):=by obtain⟨h,k,l,m,bx,n,o,rfl,a⟩:=a;obtain⟨r,s,t,u,b2,v,x,rfl,b⟩:=b;exact Xs h r k bx s b2 l m n o t u v x i j p q w a b f g c
def GQ(a:eF w b p):Calls prog 98 #[b] w (nP w (-p)):=by obtain⟨c,d,e,f,bx,g,h,rfl,a⟩:=a;exact Po c d bx e f g h p w a
def EM(a:eF w b p):Calls prog 110 #[b] w fun e w'=>e=.returned (.bool (decide (p=0)))/\Below w.heap.size w w':=by
 obtain⟨c,d,f,g,bx,i,j,rfl,a⟩:=a;have e:decide (p.num.natAbs=0)=decide (p=0):=by
  by_cases h:p=0
  . subst h;rfl
  . have:p.num≠0:=fun k=>h (jA.1 k)
    rw[bS h,bS oO]
 rw[<-e];exact Pp c d bx f g i j _ w a.top
def Uk(s:Vs)(w:Vz):
 Calls prog 99 #[.string s,.string ⟨#[45]⟩] w fun e w'=>e=.returned (.tuple #[.string ⟨(Lib.trimPrefix s.data.toList [45]).toArray⟩,.bool (Lib.hasPrefix s.data.toList [45])])/\w'=w:=Any.strings_CutPrefix Tryz.Cq s ⟨#[45]⟩ w
def Uj(s:Vs)(m:Int)(w:Vz)(a:s.size<4294967281)(b:w.cell? ⟨4,0,none⟩=some (.int .i64 m)):
 Calls prog 100 #[.string s,.string ⟨#[47]⟩] w fun e w'=>e=.returned (.tuple #[.string ⟨(Lib.cut s.data.toList [47]).1.toArray⟩,.string ⟨(Lib.cut s.data.toList [47]).2.1.toArray⟩,.bool (Lib.cut s.data.toList [47]).2.2])/\∃n,w'=w.drewN n:=Any.strings_Cut Tryz.Co s ⟨#[47]⟩ m w a b
def uN.DS{w':Vz}{x:Nat}{e:As}(h:uN w x e w'):(∃a n c,e=.returned (.slice a n c)/\mz w' a n c x)/\Below w.heap.size w w':=by obtain⟨⟨a,c,l,rfl,b⟩,hb⟩:=h;exact⟨⟨a,l.length,c,rfl,l,rfl,b⟩,hb⟩
def Ui(neg:Bool)(t k:Nat):mkRat (kJ neg t) k=if neg=true then -(mkRat (t:Int) k) else mkRat (t:Int) k:=by
 cases neg
 . simp[kJ]
 . simp only[kJ,tN]
   rw[Rat.neg_mkRat]
def KB(a:Lib.trimPrefix s [45]=t)(h:¬q9 t):il s 0:=by
 refine⟨0,by rw[a];exact .inr ⟨h,rfl⟩,?_⟩
 split<;>simp
def Il{c1 c2:Vu}{bar neg:Bool}(f:Lib.trimPrefix s [45]=t)(h:Lib.hasPrefix s [45]=neg)(g:(Lib.cut t [47]).1=c1)(b:(Lib.cut t [47]).2.1=c2)(c:(Lib.cut t [47]).2.2=bar)(d:nO c1)(e:bar=true->nO c2):
 il s (mkRat (kJ neg (dE c1)) (if bar=true then dE c2 else 1)):=by
 by_cases a:bar=true/\dE c2=0
 . rw[aN a.1,a.2,ED];apply KB f;intro i;exact(i.2 (by rw[c];exact a.1)).2 (by rw[b];exact a.2)
 . refine⟨mkRat (dE c1:Nat) (if bar=true then dE c2 else 1),?_,by rw[h];exact Ui _ _ _⟩;rw[f];refine .inl ⟨⟨by rw[g];exact d,fun hb=>?_⟩,by rw[g,b,c]⟩;rw[c]at hb;rw[b];exact⟨e hb,fun j=>a ⟨hb,j⟩⟩
def Hh(s:Vu)(w:Vz)(e:As)(w':Vz):Prop:=∃q,il s q/\nP w q e w'
def NH(s:Vs)(m:Int)(w:Vz)(hm:w.cell? ⟨4,0,none⟩=some (.int .i64 m))(j:s.size<=1073741824):
 Calls prog 53 #[.string s] w (Hh s.data.toList w):=by
 obtain⟨t,ht⟩:=nm ((⟨(Lib.trimPrefix s.data.toList [45]).toArray⟩:ByteArray));obtain⟨neg,p⟩:=nm (Lib.hasPrefix s.data.toList [45]);have G:Lib.trimPrefix s.data.toList [45]=t.data.toList:=by rw[<-ht]
 have ay:t.size<=1073741824:=by have:=H6 s.data.toList [45];rw[G,ut,ut]at this;omega
 obtain⟨c1,H⟩:∃c,(⟨(Lib.cut t.data.toList [47]).1.toArray⟩:ByteArray)=c:=⟨_,rfl⟩;obtain⟨c2,I⟩:∃c,(⟨(Lib.cut t.data.toList [47]).2.1.toArray⟩:ByteArray)=c:=⟨_,rfl⟩;obtain⟨bar,q⟩:∃b,(Lib.cut t.data.toList [47]).2.2=b:=⟨_,rfl⟩;have J:(Lib.cut t.data.toList [47]).1=c1.data.toList:=by rw[<-H]
 have L:(Lib.cut t.data.toList [47]).2.1=c2.data.toList:=by rw[<-I]
 have M:c1.size<=1073741824:=by have:=Nr t.data.toList;rw[J,ut,ut]at this;omega
 have N:c2.size<=1073741824:=by have:=Nq t.data.toList;rw[L,ut,ut]at this;omega
 have d:=Hi ((ac w.heap.size w).alloc lZ (.cells gK 99));obtain⟨HM,f⟩:=Ia (ce d.o (bI _ _ hm) hm) (cK w 99 gK);obtain⟨wA,P⟩:=nm (w.alloc (.cells gK 99));rw[P]at d HM f;obtain⟨Q,R⟩:=Ia (Uk s wA) (Uj t m wA oO HM.o);rw[ht,p]at Q;rw[H,I,q]at R;obtain⟨al,x,ae,S,T,U,am,an,af⟩:=Ih P G p J L q (fun w=>NG c1 w M) (fun w=>NG c2 w N) (fun w h=>NI c1 w M h);have ao:=Hi (fun w h=>NI c2 w N h);clear ht p G H I q J L hm P;go_enter func53,ntmps53;go_wp2_with fail;rw[show w.alloc (.cells #[.bool false,.slice none 0 0,.slice none 0 0] 99)=wA from al.o];go_fit Q.o;rintro e w1 ⟨rfl,hw⟩;subst hw;clear Q;go_wp2_with fail;go_fit R.o;rintro e w1 ⟨rfl,nD,hw⟩;subst hw;clear R;have y:Bl w1 (w1.drewN nD):=Im bR nD;obtain⟨wD,V⟩:=nm (w1.drewN nD);rw[V]at y;obtain⟨ag,ah,ap⟩:=Ib (d.o.trans (y.mono d.o.size)) (f.o.below y f.o.lt) V;clear y V d f HM;have d:=ag;have f:=ah;clear ag ah;go_wp2_with fail;rw[ap.o];go_fit (am.o _);rintro e w2 ⟨⟨v1,rfl,ai⟩,aq⟩;subst aq;have W:=Hi ai;clear ai;cases v1 with
 |false=> have X:=Hi (KB x.o (fun h=>by have:=W.o.2 (by rw[<-S.o];exact h.1);cases this));have Y:=f.o.cell 0;have k1:=f.o.cell 1;have k2:=f.o.cell 2;have f0:=f.o.free 0;have f1:=f.o.free 1;have f2:=f.o.free 2;simp[gK]at Y k1 k2;go_wp2;refine bK (v:=.agg #[.bool false,.slice none 0 0,.slice none 0 0]) (bG rfl _ _ (w.heap.size) 99 #[.bool false,.slice none 0 0,.slice none 0 0] (0,0) _ rfl (((f.o.set 0 _).set 1 _).set 2 _) underlying99 rfl mm) rfl ?_;exact⟨0,X.o,⟨_,rfl,nR _⟩,((d.o.setCell lZ _).setCell lZ _).setCell lZ _⟩
 |true=>
  have r:=Hi (W.o.1 rfl);clear W;cases bar with
  |false=> have X:=Hi (Il x.o ae.o S.o T.o U.o r.o (fun h=>by cases h));go_wp2_with fail;go_fit (af.o _ r.o.2);rintro e w3 F;obtain⟨⟨a,n,c,rfl,k⟩,hb⟩:=F.DS;have z:=Hi k;have l:=Hi (f.o.below hb f.o.lt);have i:=Hi (d.o.trans (hb.mono d.o.size));clear f d k hb F;have f:=l;have d:=i;clear l i;go_wp2_with fail;go_fit (I5 neg a none n c 0 0 (dE c1.data.toList) 1 _ z.o (.inl ⟨rfl,rfl,rfl,rfl⟩) (Nat.coprime_one_right _));rintro e w9 ⟨⟨v9,rfl,k⟩,hb⟩;obtain⟨g,A,B,C,D,E,d9,rfl,k⟩:=k;have j:=f.o.below hb f.o.lt;have Y:=j.cell 0;have k1:=j.cell 1;have k2:=j.cell 2;have f0:=j.free 0;have f1:=j.free 1;have f2:=j.free 2;simp[gK]at Y k1 k2;obtain⟨HV,u,Z⟩:=Ib k j (d.o.trans (hb.mono d.o.size));clear k j hb;go_wp2;refine bK (v:=.agg #[.bool g,.slice A B C,.slice D E d9]) (bG rfl _ _ (w.heap.size) 99 #[.bool g,.slice A B C,.slice D E d9] (0,0) _ rfl (((u.o.set 0 _).set 1 _).set 2 _) underlying99 rfl mm) rfl ?_;have ho:=(((cX (w.heap.size) w9).setCell 0 (.bool g)).setCell 1 (.slice A B C)).setCell 2 (.slice D E d9);exact⟨_,X.o,⟨_,rfl,g,A,B,C,D,E,d9,rfl,HV.o.only ho u.o Lw⟩,fU Z.o ho oO⟩
  |true=>
   go_wp2_with fail;go_fit (an.o _);rintro e w3 ⟨⟨v2,rfl,hv2⟩,ar⟩;subst ar;have aa:=Hi hv2;clear hv2;cases v2 with
   |false=> have X:=Hi (KB x.o (fun h=>by have:=aa.o.2 (by rw[<-T.o];exact(h.2 U.o).1);cases this));have Y:=f.o.cell 0;have k1:=f.o.cell 1;have k2:=f.o.cell 2;have f0:=f.o.free 0;have f1:=f.o.free 1;have f2:=f.o.free 2;simp[gK]at Y k1 k2;go_wp2;refine bK (v:=.agg #[.bool false,.slice none 0 0,.slice none 0 0]) (bG rfl _ _ (w.heap.size) 99 #[.bool false,.slice none 0 0,.slice none 0 0] (0,0) _ rfl (((f.o.set 0 _).set 1 _).set 2 _) underlying99 rfl mm) rfl ?_;exact⟨0,X.o,⟨_,rfl,nR _⟩,((d.o.setCell lZ _).setCell lZ _).setCell lZ _⟩
   |true=> have ab:=Hi (aa.o.1 rfl);clear aa;obtain⟨K0,ad⟩:=nm 1073741824;obtain⟨K,hK⟩:=nm (4*K0);have au:O (dE c1.data.toList<2 ^ K):=Hi (by rw[<-hK];exact H7 r.o.2 (by rw[ut,<-ad];exact M));have av:O (dE c2.data.toList<2 ^ K):=Hi (by rw[<-hK];exact H7 ab.o.2 (by rw[ut,<-ad];exact N));have aw:O (K+K<137438953000):=Hi oO;clear hK ad;have X:=Hi (Il x.o ae.o S.o T.o U.o r.o (fun _=>ab.o));go_wp2_with fail;go_fit (af.o _ r.o.2);rintro e w3 F;obtain⟨⟨a,n,c,rfl,k⟩,hb⟩:=F.DS;have z:=Hi k;have l:=Hi (f.o.below hb f.o.lt);have i:=Hi (d.o.trans (hb.mono d.o.size));clear f d k hb F;have f:=l;have d:=i;clear l i;go_wp2_with fail;go_fit (ao.o _ ab.o.2);rintro e w4 F;obtain⟨⟨a2,n2,ax,rfl,k⟩,hb⟩:=F.DS;obtain⟨aj,ak⟩:=Ia k (z.o.below hb);have l:=Hi (f.o.below hb f.o.lt);have i:=Hi (d.o.trans (hb.mono d.o.size));clear f d k hb F z;have f:=l;have d:=i;clear l i;go_wp2_with fail;go_fit (XB neg a a2 n c n2 ax (dE c1.data.toList) (dE c2.data.toList) K K _ ak.o aj.o au.o av.o aw.o);rintro e w9 ⟨⟨v9,rfl,k⟩,hb⟩;obtain⟨g,A,B,C,D,E,d9,rfl,k⟩:=k;have j:=f.o.below hb f.o.lt;have Y:=j.cell 0;have k1:=j.cell 1;have k2:=j.cell 2;have f0:=j.free 0;have f1:=j.free 1;have f2:=j.free 2;simp[gK]at Y k1 k2;obtain⟨HV,u,Z⟩:=Ib k j (d.o.trans (hb.mono d.o.size));clear k j hb;go_wp2;refine bK (v:=.agg #[.bool g,.slice A B C,.slice D E d9]) (bG rfl _ _ (w.heap.size) 99 #[.bool g,.slice A B C,.slice D E d9] (0,0) _ rfl (((u.o.set 0 _).set 1 _).set 2 _) underlying99 rfl mm) rfl ?_;have ho:=(((cX (w.heap.size) w9).setCell 0 (.bool g)).setCell 1 (.slice A B C)).setCell 2 (.slice D E d9);exact⟨_,X.o,⟨_,rfl,g,A,B,C,D,E,d9,rfl,HV.o.only ho u.o Lw⟩,fU Z.o ho oO⟩
end Go.Proofs.YtfgclhpgdanmfaaGreatDoor
namespace Go.Proofs
open Go.Shelf
def Tryz.sF:Go.Shelf.Ren:=⟨fun|169=>170|n=>n,fun|70=>204|9=>9|0=>0|72=>207|37=>205|127=>247|3=>3|5=>5|n=>n,fun|n=>n⟩
theorem Tryz.Ck:Go.Proofs.Lays.n169 Tryz.prog Tryz.sF:=by
 constructor
 all_goals first|kernel_rfl|(intro w;kernel_rfl)|(constructor<;>(first|kernel_rfl|(intro w;kernel_rfl)))
def Tryz.vJ:Go.Shelf.Ren:=⟨fun|283=>239|n=>n,fun|3=>3|9=>9|4=>4|n=>n,fun|n=>n⟩
theorem Tryz.Ci:Go.Proofs.Lays.n283 Tryz.prog Tryz.vJ:=by
 constructor
 all_goals first|kernel_rfl|(intro w;kernel_rfl)|(constructor<;>(first|kernel_rfl|(intro w;kernel_rfl)))
def Tryz.vI:Go.Shelf.Ren:=⟨fun|284=>240|129=>226|317=>244|318=>245|n=>n,fun|53=>172|3=>3|212=>276|0=>0|4=>4|46=>224|5=>5|9=>9|n=>n,fun|17=>9|n=>n⟩
theorem Tryz.Ch:Go.Proofs.LaysM.n284 Tryz.prog Tryz.vI:=by
 constructor
 all_goals first|kernel_rfl|(intro w;kernel_rfl)|(constructor<;>(first|kernel_rfl|(intro w;kernel_rfl)))
def Tryz.vH:Go.Shelf.Ren:=⟨fun|285=>241|n=>n,fun|37=>205|53=>172|3=>3|4=>4|51=>213|9=>9|5=>5|0=>0|n=>n,fun|n=>n⟩
theorem Tryz.Cg:Go.Proofs.Lays.n285 Tryz.prog Tryz.vH:=by
 constructor
 all_goals first|kernel_rfl|(intro w;kernel_rfl)|(constructor<;>(first|kernel_rfl|(intro w;kernel_rfl)))
end Go.Proofs
namespace Go.Proofs.YtfgclhpgdanmfaaGreatDoor
set_option linter.defProp false
open Go.RowKit
open Go.Proofs.Tryz
set_option linter.unusedSimpArgs false
set_option linter.unusedVariables false
set_option maxHeartbeats 8000000
set_option maxRecDepth 1000000
section
open Go.RowKit Go.Sort Go.Lib
def wU(w:Vz):Prop:=Lib.TabIs prog w "internal/strconv.uint64pow10" .u64 Lib.pow10Tab
def wU.below{w w':Vz}(h:wU w)(hb:Bl w w'):wU w':=by
 unfold wU Lib.TabIs World.var? at*;cases hg:prog.globalNamed "internal/strconv.uint64pow10" with
 |none=>simp[hg]at h
 |some g=>
  simp only[hg,Bh]at h ⊢;have a:g<w.heap.size:=by
   rcases bB g w.heap.size with b|b
   . exact b
   . simp[dX b]at h
  rw[hb.block g a];exact h
def QX(i:Nat)(h:i<100)(w:Vz):Calls prog 239 #[.int .i64 i] w fun e w'=>e=.returned (.string ⟨(Lib.decDigits i).toArray⟩)/\w'=w:=Any.internal_strconv_small Tryz.Ci i h w
def QW(u:Nat)(a:1<=u)(b:u<18446744073709551616)(w:Vz)(c:wU w):Calls prog 240 #[.int .u64 u] w fun e w'=>e=.returned (.int .i64 (Lib.nDigits u))/\w'=w:=Any.internal_strconv_numDigits Tryz.Ch u a b w c
def QV(a c cap:Nat)(u:Nat)(d:Array UInt8)(w:Vz)(i:Go.Sort.Holds (fun (b:AP)=>Value.int .u8 (b.toNat:Int)) w a c d)(j:u<10 ^ d.size)(f:u<18446744073709551616)(g:d.size<4611686018427387904):
 Calls prog 241 #[.slice (some ⟨a,c,none⟩) d.size cap,.int .u64 u] w fun e w'=> e=.returned (.tuple #[])/\∃(n k:Nat)(h:Array UInt8),w'=(putRow (fun (b:AP)=>Value.int .u8 (b.toNat:Int)) w a c h).drewN n/\FmtInv d.size u 0 k h:=Any.internal_strconv_formatBase10 Tryz.Cg a c cap u d w i j f g
def QU(w:Vz)(T:Vr)(a:Nat)(e:a<=24):Go.Sort.Holds (fun (b:AP)=>Value.int .u8 (b.toNat:Int)) (w.alloc (.cells zeros24 T)) w.heap.size 0 (Array.replicate a (0:AP)):=fun j c=>by have d:j<a:=sU c;refine⟨?_,World.frozen?_alloc_new _ _ _ _⟩;rw[World.cell?_alloc_new,zeros24_at _ oO,getElem!_pos _ j c];simp
def QT(w:Vz)(o:Obj)(c:Array UInt8)(k:Nat):Bl w ((putRow (fun (b:AP)=>Value.int .u8 (b.toNat:Int)) (w.alloc o) w.heap.size 0 c).drewN k):=by rw[alloc_eq_grow];obtain⟨a,_,e⟩:=putRow_grow_new (fun (b:AP)=>Value.int .u8 (b.toNat:Int)) w #[o] w.heap.size 0 c lZ;rw[e];exact below_grow w.heap.size w lZ k a
def QS(u:Nat)(a:u<18446744073709551616)(w:Vz)(v:wU w):
 Calls prog 237 #[.int .u64 u,.int .i64 10] w fun e w'=>e=.returned (.string ⟨(Lib.decDigits u).toArray⟩)/\Below w.heap.size w w':=by
 by_cases D:u<100
 . have E:=Hi (QX u D w);clear v;go_enter func237,ntmps237;go_wp2_with fail;go_fit E.o;rintro e w1 ⟨rfl,x⟩;subst x;clear E;go_wp2;go_ret;exact⟨rfl,ac _ _⟩
 .
  have i:Lib.nDigits u<=20:=by have:=Lib.numDigits_eq u oO a;split at this<;>omega
  obtain⟨p,c,d,f⟩:=Ic (Lib.lt_pow_nDigits u) (Lib.decDigits_length u) (QW u oO a (w.alloc (.cells zeros24 269)) (wU.below v (bR.alloc lZ _))) (QU w 269 (Lib.nDigits u) oO);have q:=Hi (QV w.heap.size 0 24 u (Array.replicate (Lib.nDigits u) 0) (w.alloc (.cells zeros24 269)) f.o (by rw[qg];exact p.o) a (by rw[qg];omega));rw[qg]at q;obtain⟨N,y⟩:=nm (Lib.nDigits u);have G:∀W,(Instr.sliceAt 269 (.pointer (some ⟨w.heap.size,0,none⟩)) none (some (.int .i64 (N:Int))) none).run prog W=.ok (.slice (some ⟨w.heap.size,0,none⟩) N 24) W:=fun W=>by
   have z:prog.arrayLen 269=24:=by simp[Program.arrayLen,underlying269]
   rw[run_sliceAt_array_h W 269 ⟨w.heap.size,0,none⟩ (by simp[Program.arrayLen,Program.elem,underlying269]) .i64 (N:Int) oO (rO z)];go_simp
  rw[y]at p c d f q i;have I:¬((u:Int)<100):=oO;obtain⟨J,l⟩:=nm (w.alloc (.cells zeros24 269));obtain⟨A,r⟩:=Ia l (fun s k=>QT w (.cells zeros24 269) s k);rw[l]at d f q r;have B:=Hi y;have F:N<=24:=oO;clear v D l y;go_enter func237,ntmps237;go_wp2_with fail;have m:=A.o;unfold zeros24 at m;rw[m];clear m;go_fit d.o;rintro e w1 ⟨rfl,x⟩;subst x;clear d;go_wp2_with fail;go_fit q.o;rintro e w2 ⟨rfl,k,K,s,n,t⟩;have g:=Hi (r.o s k);rw[<-n]at g;have H:(convert 205 9 (.slice (some ⟨w.heap.size,0,none⟩) N 24)).run prog w2=.ok (.string ⟨(Lib.decDigits u).toArray⟩) w2:=by
   have h:=run_convert_bytes_back (P:=prog) w2 205 9 5 ⟨w.heap.size,0,none⟩ 24 (Lib.decDigits u) underlying205 underlying5 underlying9 (fun j C=>by
    rw[c.o]at C;rw[Lib.row_is_numeral (by rw[B.o];exact t) j (by rw[c.o];exact C),Lib.add_plain,n,World.cell?_drewN]
    exact cell?_putRow (fun (b:AP)=>Value.int .u8 (b.toNat:Int)) _ w.heap.size 0 _ s f.o (by rw[t.size,qg]) j (by rw[t.size];exact C))
   rw[c.o]at h;exact h
  clear n t q;go_wp2;go_ret;exact⟨rfl,g.o⟩
def QP(u:Nat)(a:u<18446744073709551616)(w:Vz)(b:wU w):
 Calls prog 230 #[.int .u64 u,.int .i64 10] w fun e w'=>e=.returned (.string ⟨(Lib.decDigits u).toArray⟩)/\Below w.heap.size w w':=by
 have c:=Hi (QS u a w b);clear b;go_enter func230,ntmps230;go_wp2_with fail;go_fit c.o;rintro e w1 ⟨rfl,hb⟩;have d:=Hi hb;clear c hb;go_wp2;go_ret;exact⟨rfl,d.o⟩
end
def Tryz.Gb:Builder.Extra prog Tryz.sF where
 sizeBuilder:=kK
 liesBuilder:=kK
 t5:=underlying5
 a5:=Tryz.isAgg5
 z5:=Tryz.sizeOf5
 v5:=Tryz.zeroValue5
 infoByte:=kK
 cellsByte:=kK
 sizeByte:=kK
 neB5:=dD
def Tryz.Be:(prog.info? 207).map (·.size)=some 2:=kK
def Tryz.D8:liesAt prog prog.depth 207 (2 / prog.cellsOf 207) 0 207 1=true:=kK
abbrev Bd(B b:Nat)(bs:Vv)(w:Vz):Prop:=Lib.IsBuilder 207 5 B b bs w
abbrev Fg(B b:Nat)(bs:Vv)(w:Vz):Prop:=Lib.BuilderAt 207 5 B b (.pointer (some ⟨b,0,none⟩)) bs w
def Rd(B b:Nat)(l:Vu)(w:Vz)(h:Bd B b (Lib.byteCells l) w)(a:B<=w.heap.size):
 Calls prog 170 #[.pointer (some ⟨b,0,none⟩)] w fun e w'=>e=.returned (.string ⟨l.toArray⟩)/\Below B w w':=Any.Builder_String_any Tryz.Ck Tryz.Gb B b l w h a
def Rc(b:Nat)(w:Vz)(d:w.cell? ⟨b,0,none⟩=some (.pointer (some ⟨b,0,none⟩))):
 Calls prog 238 #[.pointer (some ⟨b,0,none⟩)] w fun e w'=>e=.returned (.tuple #[])/\w'=w:=by
 obtain⟨j,a,_⟩:=aZ.1 Tryz.Be;have c:∀w,(binOp .neq 204 (.pointer (some ⟨b,0,none⟩)) (.pointer (some ⟨b,0,none⟩))).run prog w=.ok (.bool false) w:=fun w=>Lib.run_neq_ptr_same w ⟨b,0,none⟩ underlying204 a
 go_enter func238,ntmps238;go_wp2;go_end0;exact⟨rfl,rfl⟩
def Ra(b:Nat)(w:Vz)(h:w.cell? ⟨b,0,none⟩=some (.pointer none))(a:w.shape? b=some (207,2))(f:w.frozen? ⟨b,0,none⟩=false):
 Calls prog 238 #[.pointer (some ⟨b,0,none⟩)] w fun e w'=>e=.returned (.tuple #[])/\w'=w.setCell ⟨b,0,none⟩ (.pointer (some ⟨b,0,none⟩)):=by
 obtain⟨j,d,c⟩:=aZ.1 Tryz.Be;have i:(convert 204 273 (.pointer (some ⟨b,0,none⟩))).run prog w=.ok (.pointer (some ⟨b,0,none⟩)) w:=Lib.run_to_unsafe w ⟨b,0,none⟩ underlying204 underlying273 d (by rw[c];decide) a (Nat.zero_lt_succ 1);have g:(callFunc 243 #[.pointer (some ⟨b,0,none⟩)]).run prog w=.ok (.value (.pointer (some ⟨b,0,none⟩))) w:=by rw[run_callFunc_extern func243 kK kK kK (e:=Extern.AbiNoEscape.same) kK,Lib.run_noEscape];rfl
 have k:(convert 273 204 (.pointer (some ⟨b,0,none⟩))).run prog w=.ok (.pointer (some ⟨b,0,none⟩)) w:=Lib.run_from_unsafe w ⟨b,0,none⟩ underlying273 underlying204 d a Tryz.D8;clear d c a;go_enter func238,ntmps238;go_wp2_with simp only[g];go_end0;exact⟨rfl,rfl⟩
end Go.Proofs.YtfgclhpgdanmfaaGreatDoor
