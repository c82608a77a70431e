import Derived.Test.YtfgclhpgdanmfaaGreatDoorS11Ret2
namespace Go.Proofs.YtfgclhpgdanmfaaGreatDoor
set_option linter.defProp false
open Go.RowKit
open Go.Proofs.Tryz
set_option linter.unusedSimpArgs false
set_option linter.unusedVariables false
set_option maxHeartbeats 8000000
set_option maxRecDepth 1000000
variable{p:Bool}{B c cap d e g h i j k l m n t x y:Nat}{w w0:Vz}{L:AU}{a:Vy}{b:Vx}
def XG{q:Bool}(h:p≠q)(a:x<=y):kJ q (y - x)=kJ p x+kJ q y:=by cases p<;>cases q<;>simp[kJ]at h ⊢ <;>omega
def XF{q:Bool}(h:p≠q)(a:y<=x):kJ p (x - y)=kJ p x+kJ q y:=by cases p<;>cases q<;>simp[kJ]at h ⊢ <;>omega
def XE(p:Bool)(x y:Nat):kJ p (x+y)=kJ p x+kJ p y:=by cases p<;>simp[kJ]<;>omega
def XD(h:x<2 ^ j)(hk:j<=k):x<2 ^ k:=aF h (cP dD hk)
def fQ.grow{a:Vx}(h:fQ w0 w (⟨a,n,c,x,j⟩ :: L))(hk:j<=k):fQ w0 w (⟨a,n,c,x,k⟩ :: L):=
 ⟨h.base,fun t b=>by
   rcases aY.1 b with rfl|b
   . exact⟨(h.ts _ (bM _)).1,XD (h.ts _ (bM _)).2 hk⟩
   . exact h.ts t (bU _ b)⟩
def fQ.lg(h:fQ w0 w L):fQ w w L:=⟨ac _ _,h.ts⟩
def Signed(w0:Vz)(L:AU)(k:Nat)(z:Int)(e:As)(w':Vz):Prop:=∃r a n c t,e=.returned (.tuple #[.bool r,.slice a n c])/\fQ w0 w' (⟨a,n,c,t,k⟩ :: L)/\kJ r t=z
def fQ.sg{t u:Vx}{n1 v c1 c2:Nat}{q:Bool}(h:fQ w0 w L)(f:⟨t,n1,c1,x,j⟩∈ L)(g:⟨u,v,c2,y,k⟩∈ L)(r:j+k<274877906000):
 Calls prog 108 #[.bool p,.slice t n1 c1,.bool q,.slice u v c2] w (Signed w0 L (j+k+1) (kJ p x+kJ q y)):=by
 by_cases b:p=q
 . subst b;have d:=Hi (h.add f g r);clear h f g r;go_enter func108,ntmps108;go_wp2_with fail;go_fit d.o;rintro e w1 ⟨a,n,c,rfl,hb⟩;have i:=Hi hb;clear hb d;go_wp2;go_ret2;exact⟨p,a,n,c,x+y,rfl,i.o,XE p x y⟩
 .
  have z:(p == q)=false:=sU b;obtain⟨m,A,B,C⟩:=Ic (h.compare f g) f g b;clear h f g r b;by_cases s:x<y
  . have l:=(zM x y).2 s;go_enter func108,ntmps108;go_wp2_with fail;go_fit m.o;rintro e w1 ⟨rfl,hb⟩;have d:=Hi (hb.sub B.o A.o oO);clear hb m;go_wp2_with fail;go_fit d.o;rintro e w1 ⟨a,n,c,rfl,hb⟩;have i:=Hi hb;clear hb d;go_wp2;go_ret2;exact⟨q,a,n,c,y - x,rfl,i.o.grow oO,XG C.o oO⟩
  . have l:¬(kZ x y<0):=fun h=>oB ((zM x y).1 h)
    go_enter func108,ntmps108;go_wp2_with fail;go_fit m.o;rintro e w1 ⟨rfl,hb⟩;have d:=Hi (hb.sub A.o B.o oO);clear hb m;go_wp2_with fail;go_fit d.o;rintro e w1 ⟨a,n,c,rfl,hb⟩;have i:=Hi hb;clear hb d;go_wp2;go_ret2;exact⟨p,a,n,c,x - y,rfl,i.o.grow oO,XF C.o oO⟩
def XC{neg:Bool}(hk:0<k)(b:Nat.gcd t k=g):mkRat (kJ neg (t / g)) (k / g)=mkRat (kJ neg t) k/\Nat.Coprime (t / g) (k / g)/\0<k / g/\0<g:=by
 have d:0<g:=by rw[<-b];exact eQ _ hk
 have d1:=b ▸ nK _ _;have d2:=b ▸ lG _ _;have e:=it d1;have c:=it d2;refine⟨?_,by have:=np (m:=t) (n:=k) oO;rw[b]at this;exact this,?_,d⟩
 .
  rw[<-vS (a:=g) oO,c]
  congr 1
  have:=FI neg false (t / g) g;rw[show kJ false g=(g:Int) from rfl,e,rz]at this;exact this.symm
 .
  rcases eE (k / g) with h|h
  . rw[h]at c;omega
  . exact h
def fQ.start{a:Vx}(f:mz w a n c t)(hk:mz w b m d k)(g:t<2 ^ i)(h:k<2 ^ j):fQ w w [⟨a,n,c,t,i⟩,⟨b,m,d,k,j⟩]:=by
 refine⟨ac _ _,fun s e=>?_⟩;simp only[aY,dI,ji]at e;rcases e with rfl|rfl
 . exact⟨f,g⟩
 . exact⟨hk,h⟩
def XB(neg:Bool)(a b:Vx)(n c m d t k i j:Nat)(w:Vz)(y:mz w a n c t)(hk:mz w b m d k)(z:t<2 ^ i)(A:k<2 ^ j)(B:i+j<137438953000):
 Calls prog 104 #[.bool neg,.slice a n c,.slice b m d] w (nP w (mkRat (kJ neg t) k)):=by
 have C:=hk.pB;by_cases D:k=0
 . have J:=C.1 D;subst D J;rw[ED];have R:=Hi ((ac w.heap.size w).alloc lZ (.cells #[.bool false,.slice none 0 0,.slice none 0 0] 99));clear y hk z A B C;go_enter func104,ntmps104;go_wp2;refine bK (v:=.agg #[.bool false,.slice none 0 0,.slice none 0 0]) (bG rfl _ _ w.heap.size 99 #[.bool false,.slice none 0 0,.slice none 0 0] (0,0) _ rfl (cK w _ _) underlying99 rfl mm) rfl ?_;exact⟨⟨_,rfl,nR _⟩,R.o⟩
 . have J:((m:Int) == 0)=false:=by rw[aJ];omega
   obtain⟨G,hG⟩:=nm (Nat.gcd t k);obtain⟨K,L,E,S⟩:=XC (neg:=neg) oO hG;rw[<-K];have g:=Hi (((fQ.start y hk z A).alloc (.cells gK 99)).lg);obtain⟨u,p⟩:=nm (w.alloc (.cells gK 99));obtain⟨q,f⟩:=Ia (cK w 99 gK) ((ac w.heap.size w).alloc lZ (.cells gK 99));rw[p]at g q f;obtain⟨T,U,F⟩:=Ib L hG p;clear y hk z A C D L hG K p;go_enter func104,ntmps104;go_wp2_with fail;rw[show w.alloc (.cells #[.bool false,.slice none 0 0,.slice none 0 0] 99)=u from F.o];apply cM;apply zS (w0:=u) g.o;(repeat(first|exact mH|apply mT));omega;rw[U.o];rintro e w1 ⟨aG,nG,cG,rfl,hb⟩;clear g;have g:=Hi hb;clear hb;go_wp2_with fail;apply cM;apply CY (w0:=u) g.o;(repeat(first|exact mH|apply mT));omega;(first|assumption|omega);rintro e w2 ⟨V,W,X,rfl,hb⟩;clear g;have g:=Hi hb;clear hb;go_wp2_with fail;apply cM;apply CY (w0:=u) g.o;(repeat(first|exact mH|apply mT));omega;(first|assumption|omega);rintro e w3 ⟨Y,Z,cL,rfl,hb⟩;clear g;have g:=Hi hb;clear hb;go_wp2_with fail;have r:=Hi (q.o.below g.o.base q.o.lt);have h:=Hi (f.o.trans (g.o.base.mono f.o.size));clear q f;have q:=r;have f:=h;clear r h;go_fit (I5 neg V Y W X Z cL (t / G) (k / G) _ (g.o.get (cU _ (bM _))).1 (.inr ⟨E,(g.o.get (bM _)).1⟩) T.o);rintro e w9 ⟨⟨v9,rfl,x⟩,hb⟩;obtain⟨l,M,N,O,P,Q,d9,rfl,x⟩:=x;have H:=q.o.below hb q.o.lt;obtain⟨k0,k1,k2,f0,f1,f2⟩:=H.fz;obtain⟨HV,s,I⟩:=Ib x H (f.o.trans (hb.mono f.o.size));clear x H hb;go_wp2;refine bK (v:=.agg #[.bool l,.slice M N O,.slice P Q d9]) (bG rfl _ _ (w.heap.size) 99 #[.bool l,.slice M N O,.slice P Q d9] (0,0) _ rfl (((s.o.set 0 _).set 1 _).set 2 _) underlying99 rfl mm) rfl ?_;exact Ji HV.o s.o I.o oO
def fQ.under{neg:Bool}{a:Vx}(h:fQ w0 w L)(hl:zA w0 b m d k)(hk:k<2 ^ e):
 Calls prog 105 #[.agg #[.bool neg,.slice a n c,.slice b m d]] w (wF w0 L k e):=XH neg a b n c m d k e w0 w L h (hl.below h.base) hk
def fQ.Bb{neg:Bool}{a:Vx}(h:fQ w0 w L)(e:⟨a,n,c,t,i⟩∈ L)(f:⟨b,m,d,k,j⟩∈ L)(hk:0<k)(g:Nat.Coprime t k):
 Calls prog 102 #[.bool neg,.slice a n c,.slice b m d] w (nP w (mkRat (kJ neg t) k)):=I5 neg a b n c m d t k w (h.get e).1 (.inr ⟨hk,(h.get f).1⟩) g
def fQ.isZero{a:Vx}{neg:Bool}(h:fQ w0 w L)(f:⟨a,n,c,t,k⟩∈ L):
 Calls prog 110 #[.agg #[.bool neg,.slice a n c,.slice b m d]] w (fun e w'=>e=.returned (.bool (decide (t=0)))/\fQ w0 w' L):=by
 refine(Pp neg a b n c m d t w (h.get f).1).mono ?_;rintro e w' ⟨rfl,hb⟩;exact⟨rfl,h.below hb⟩
def I4{r s:Bool}{bx c b2:Vx}{f:Nat}{p q:Rat}(t:jr w r b d e bx f g p)(u:jr w s c h k b2 l m q)(v:Fits p i)(x:Fits q j):
 ∃a,O ((((w.alloc (.cells #[.bool r,.slice b d e,.slice bx f g] 99)).alloc (.cells #[.bool s,.slice c h k,.slice b2 l m] 99)).alloc (.cells gK 99))=a)/\O (fQ a a [⟨b,d,e,p.num.natAbs,i⟩,⟨c,h,k,q.num.natAbs,j⟩])/\O (SB a (w.heap.size+1+1) 99 gK)/\O (Bl w a)/\O (zA a bx f g p.den)/\O (zA a b2 l m q.den)/\w.heap.size<a.heap.size/\w.heap.size+1<a.heap.size/\O (∀X,Below a.heap.size a X->X.cell? ⟨w.heap.size,0,none⟩=some (.bool r)/\X.cell? ⟨w.heap.size,1,none⟩=some (.slice b d e)/\X.cell? ⟨w.heap.size,2,none⟩=some (.slice bx f g)/\X.cell? ⟨w.heap.size+1,0,none⟩=some (.bool s)/\X.cell? ⟨w.heap.size+1,1,none⟩=some (.slice c h k)/\X.cell? ⟨w.heap.size+1,2,none⟩=some (.slice b2 l m)):=by
 have hb:=Below.DT w (.cells #[.bool r,.slice b d e,.slice bx f g] 99) (.cells #[.bool s,.slice c h k,.slice b2 l m] 99) (.cells gK 99);have n:=((cK w 99 #[.bool r,.slice b d e,.slice bx f g]).alloc (.cells #[.bool s,.slice c h k,.slice b2 l m] 99)).alloc (.cells gK 99);have o:=(xE w 99 99 #[.bool r,.slice b d e,.slice bx f g] #[.bool s,.slice c h k,.slice b2 l m]).alloc (.cells gK 99);exact⟨_,Hi rfl,Hi ((((fQ.start t.top u.top v.1 x.1).alloc _).alloc _).alloc _).lg,Hi (SB.DT w _ _ _ _ _ _),Hi hb,Hi (t.low.below hb),Hi (u.low.below hb),n.lt,o.lt,Hi fun X hb=>have n:=n.below hb n.lt;have o:=o.below hb o.lt;⟨n.cell 0,n.cell 1,n.cell 2,o.cell 0,o.cell 1,o.cell 2⟩⟩
def P5(x y:Bool)(B bx C b2:Vx)(D E F G H I J K i j:Nat)(p q:Rat)(w:Vz)(T:jr w x B D E bx F G p)(U:jr w y C H I b2 J K q)(V:Fits p i)(W:Fits q j)(ah:i+j<68719476000):
 Calls prog 55 #[.agg #[.bool x,.slice B D E,.slice bx F G],.agg #[.bool y,.slice C H I,.slice b2 J K]] w (nP w (p*q)):=by
 obtain⟨HX,HY,X,Y⟩:=Ic T U V W;obtain⟨c,Z,a,t,b,aa,ab,ai,aj,u⟩:=I4 T U V W;have ak:w.heap.size+1+1≠w.heap.size:=oO;have al:w.heap.size+1+1≠w.heap.size+1:=oO;clear T U V W;go_enter func55,ntmps55;obtain⟨d,f,g,h,k,l⟩:=u.o _ a.o.base;go_wp2_with fail;rw[show (((w.alloc (.cells #[.bool x,.slice B D E,.slice bx F G] 99)).alloc (.cells #[.bool y,.slice C H I,.slice b2 J K] 99)).alloc (.cells #[.bool false,.slice none 0 0,.slice none 0 0] 99))=c from Z.o];by_cases L:p.num.natAbs=0
 . have ad:p=0:=jA.1 oO;have m:=Hi (show p*q=0 by rw[ad,tP]);apply cM;apply fQ.isZero (w0:=c) a.o;(repeat(first|exact mH|apply mT));rw[(dC L)];rintro e w1 ⟨rfl,hb⟩;have r:=t.o.below hb.base t.o.lt;obtain⟨k0,k1,k2,f0,f1,f2⟩:=r.fz;obtain⟨n,s⟩:=Ia r (b.o.trans (hb.base.mono b.o.size));clear hb r a;go_wp2;refine bK (v:=.agg #[.bool false,.slice none 0 0,.slice none 0 0]) (bG rfl _ _ (w.heap.size+1+1) 99 #[.bool false,.slice none 0 0,.slice none 0 0] (0,0) _ rfl (((n.o.set 0 _).set 1 _).set 2 _) underlying99 rfl mm) rfl ?_;have ho:=(((cX (w.heap.size+1+1) w1).setCell 0 (.bool false)).setCell 1 (.slice none 0 0)).setCell 2 (.slice none 0 0);exact⟨⟨_,rfl,by first|exact nR _|(rw [m.o];exact nR _)⟩,fU s.o ho oO⟩
 .
  by_cases P:q.num.natAbs=0
  . have ae:q=0:=jA.1 oO;have m:=Hi (show p*q=0 by rw[ae,JD]);apply cM;apply fQ.isZero (w0:=c) a.o;(repeat(first|exact mH|apply mT));rw[(bS L)];rintro e w1 ⟨rfl,hb⟩;clear a;have a:=Hi hb;clear hb;obtain⟨d,f,g,h,k,l⟩:=u.o _ a.o.base;go_wp2_with fail;apply cM;apply fQ.isZero (w0:=c) a.o;(repeat(first|exact mH|apply mT));rw[(dC P)];rintro e w2 ⟨rfl,hb⟩;have r:=t.o.below hb.base t.o.lt;obtain⟨k0,k1,k2,f0,f1,f2⟩:=r.fz;obtain⟨n,s⟩:=Ia r (b.o.trans (hb.base.mono b.o.size));clear hb r a;go_wp2;refine bK (v:=.agg #[.bool false,.slice none 0 0,.slice none 0 0]) (bG rfl _ _ (w.heap.size+1+1) 99 #[.bool false,.slice none 0 0,.slice none 0 0] (0,0) _ rfl (((n.o.set 0 _).set 1 _).set 2 _) underlying99 rfl mm) rfl ?_;have ho:=(((cX (w.heap.size+1+1) w2).setCell 0 (.bool false)).setCell 1 (.slice none 0 0)).setCell 2 (.slice none 0 0);exact⟨⟨_,rfl,by first|exact nR _|(rw [m.o];exact nR _)⟩,fU s.o ho oO⟩
  .
   obtain⟨he,Q⟩:=Xy p q rfl rfl;rw[<-HX.o.neg,<-HY.o.neg]at he;have HE:O (mkRat (kJ (!x == y) (p.num.natAbs / Nat.gcd p.num.natAbs q.den*(q.num.natAbs / Nat.gcd q.num.natAbs p.den))) (p.den / Nat.gcd q.num.natAbs p.den*(q.den / Nat.gcd p.num.natAbs q.den))=p*q):=Hi he;obtain⟨af,ag⟩:=Ia Q (show 0<p.den / Nat.gcd q.num.natAbs p.den*(q.den / Nat.gcd p.num.natAbs q.den) from gL (BV (sK _ p.den_pos) (eQ _ p.den_pos)) (BV (sK _ q.den_pos) (eQ _ q.den_pos)));clear he Q;obtain⟨M,N⟩:=Ia (show 0<Nat.gcd p.num.natAbs q.den from eQ _ q.den_pos) (show 0<Nat.gcd q.num.natAbs p.den from eQ _ p.den_pos);apply cM;apply fQ.isZero (w0:=c) a.o;(repeat(first|exact mH|apply mT));rw[(bS L)];rintro e w1 ⟨rfl,hb⟩;clear a;have a:=Hi hb;clear hb;obtain⟨d,f,g,h,k,l⟩:=u.o _ a.o.base;go_wp2_with fail;apply cM;apply fQ.isZero (w0:=c) a.o;(repeat(first|exact mH|apply mT));rw[(bS P)];rintro e w2 ⟨rfl,hb⟩;clear a;have a:=Hi hb;clear hb;obtain⟨d,f,g,h,k,l⟩:=u.o _ a.o.base;go_wp2_with fail;go_region_held3
    (fun w'=>w'.cell? ⟨w.heap.size,0,none⟩=some (.bool x)/\w'.cell? ⟨w.heap.size,1,none⟩=some (.slice B D E)/\w'.cell? ⟨w.heap.size,2,none⟩=some (.slice bx F G)/\w'.cell? ⟨w.heap.size+1,0,none⟩=some (.bool y)/\w'.cell? ⟨w.heap.size+1,1,none⟩=some (.slice C H I)/\w'.cell? ⟨w.heap.size+1,2,none⟩=some (.slice b2 J K)) ((first|(simp [*];done)|go_keep))
    (first
    |
     (go_at_call_of 105 (Value.agg #[.bool x,.slice B D E,.slice bx F G])
      apply cM;apply fQ.under (w0:=c) (hl:=aa.o) (hk:=X.o.2);(focus(first|exact a.o|exact a.o.drew|exact a.o.drew.drew));rintro e w3 ⟨aA,nA,cA,rfl,hb⟩;clear a;have a:=Hi hb;clear hb;obtain⟨d,f,g,h,k,l⟩:=u.o _ a.o.base
      skip)
    |
     (go_at_call_of 105 (Value.agg #[.bool y,.slice C H I,.slice b2 J K])
      apply cM;apply fQ.under (w0:=c) (hl:=ab.o) (hk:=Y.o.2);(focus(first|exact a.o|exact a.o.drew|exact a.o.drew.drew));rintro e w4 ⟨aB,nB,cB,rfl,hb⟩;clear a;have a:=Hi hb;clear hb;obtain⟨d,f,g,h,k,l⟩:=u.o _ a.o.base
      skip)
    )
   go_wp2_with fail;go_region_held3
    (fun w'=>w'.cell? ⟨w.heap.size,0,none⟩=some (.bool x)/\w'.cell? ⟨w.heap.size,1,none⟩=some (.slice B D E)/\w'.cell? ⟨w.heap.size,2,none⟩=some (.slice bx F G)/\w'.cell? ⟨w.heap.size+1,0,none⟩=some (.bool y)/\w'.cell? ⟨w.heap.size+1,1,none⟩=some (.slice C H I)/\w'.cell? ⟨w.heap.size+1,2,none⟩=some (.slice b2 J K)) ((first|(simp [*];done)|go_keep))
    ((skip
      first
       |(
        go_at_call 106;apply cM
        apply zS (w0:=c))
       |(
        go_at_call 107;apply cM
        apply CY (w0:=c))
       |(
        go_at_call 109;apply cM
        apply DM (w0:=c))
      (focus(first|exact a.o|exact a.o.drew|exact a.o.drew.drew));(repeat(first|exact mH|apply mT));omega
      try (focus(first|exact M.o|exact N.o))
      rintro e wn ⟨an,nn,cn,rfl,hb⟩;clear a;have a:=Hi hb;clear hb;obtain⟨d,f,g,h,k,l⟩:=u.o _ a.o.base
      skip))
   go_wp2_with fail;go_region_held3
    (fun w'=>w'.cell? ⟨w.heap.size,0,none⟩=some (.bool x)/\w'.cell? ⟨w.heap.size,1,none⟩=some (.slice B D E)/\w'.cell? ⟨w.heap.size,2,none⟩=some (.slice bx F G)/\w'.cell? ⟨w.heap.size+1,0,none⟩=some (.bool y)/\w'.cell? ⟨w.heap.size+1,1,none⟩=some (.slice C H I)/\w'.cell? ⟨w.heap.size+1,2,none⟩=some (.slice b2 J K)) ((first|(simp [*];done)|go_keep))
    ((skip
      first
       |(
        go_at_call 106;apply cM
        apply zS (w0:=c))
       |(
        go_at_call 107;apply cM
        apply CY (w0:=c))
       |(
        go_at_call 109;apply cM
        apply DM (w0:=c))
      (focus(first|exact a.o|exact a.o.drew|exact a.o.drew.drew));(repeat(first|exact mH|apply mT));omega
      try (focus(first|exact M.o|exact N.o))
      rintro e wn ⟨an,nn,cn,rfl,hb⟩;clear a;have a:=Hi hb;clear hb;obtain⟨d,f,g,h,k,l⟩:=u.o _ a.o.base
      skip))
   go_wp2_with
    ((skip
      first
       |(
        go_at_call 106;apply cM
        apply zS (w0:=c))
       |(
        go_at_call 107;apply cM
        apply CY (w0:=c))
       |(
        go_at_call 109;apply cM
        apply DM (w0:=c))
      (focus(first|exact a.o|exact a.o.drew|exact a.o.drew.drew));(repeat(first|exact mH|apply mT));omega
      try (focus(first|exact M.o|exact N.o))
      rintro e wn ⟨an,nn,cn,rfl,hb⟩;clear a;have a:=Hi hb;clear hb;obtain⟨d,f,g,h,k,l⟩:=u.o _ a.o.base
      skip))
   have R:=Hi (t.o.below a.o.base t.o.lt);have z:=Hi (b.o.trans (a.o.base.mono b.o.size));clear t b;have t:=R;have b:=z;clear R z;apply cM;apply fQ.Bb (w0:=c) a.o;(repeat(first|exact mH|apply mT));(focus(exact ag.o));(focus(exact af.o));rw[HE.o];rintro e w9 ⟨⟨v9,rfl,S⟩,hb⟩;obtain⟨A,a9,n9,c9,b9,m9,d9,rfl,S⟩:=S;have r:=t.o.below hb t.o.lt;obtain⟨k0,k1,k2,f0,f1,f2⟩:=r.fz;obtain⟨HV,n,s⟩:=Ib S r (b.o.trans (hb.mono b.o.size));clear S r hb;go_wp2;refine bK (v:=.agg #[.bool A,.slice a9 n9 c9,.slice b9 m9 d9]) (bG rfl _ _ (w.heap.size+1+1) 99 #[.bool A,.slice a9 n9 c9,.slice b9 m9 d9] (0,0) _ rfl (((n.o.set 0 _).set 1 _).set 2 _) underlying99 rfl mm) rfl ?_;exact Ji HV.o n.o s.o oO
def Ik(s:Vs):s.toList= []↔s.data.toList= []:=by rw[Lib.toList_data]
def Fa(s:Vs)(w:Vz)(e:As)(w':Vz):Prop:=(∃v,e=.returned (.bool v)/\(v=true↔nO s.data.toList))/\w'=w
def NG(s:Vs)(w:Vz)(q:s.size<=1073741824):
 Calls prog 101 #[.string s] w (Fa s w):=by
 go_enter func101,ntmps101;go_wp2;go_loop [6] (fun i=>∃k:Nat,k<=s.size/\i=.int .i64 k/\fF (s.data.toList.take k)) (fun i=>s.size - (intOf i).toNat)
 case atStart=>exact⟨0,oO,rfl,fun c a=>by simp at a⟩
 case round=>
  obtain⟨k,hk,rfl,f⟩:=hrel;have g:=Hi f;clear f;by_cases b:k<s.size
  .
   have l:=Hi (LH s k b);have r:(0:Int)<=(k:Int):=oO;have b1:(k:Int)<(s.size:Int):=oO;have j:O (s[k]∈ s.data.toList):=Hi (u5.2 ⟨k,by simpa using b,rfl⟩);by_cases t:s[k].toNat<48
   . have m:((s[k].toNat:Int)<48):=oO;go_wp2;go_ret;refine⟨⟨false,rfl,?_⟩,rfl⟩;constructor
     . intro h;cases h
     . intro h;have:=(h.2 _ j.o).1;omega
   .
    have m:¬((s[k].toNat:Int)<48):=oO;by_cases u:57<s[k].toNat
    . have n:((57:Int)<(s[k].toNat:Int)):=oO;go_wp2;go_ret;refine⟨⟨false,rfl,?_⟩,rfl⟩;constructor
      . intro h;cases h
      . intro h;have:=(h.2 _ j.o).2;omega
    .
     have n:¬((57:Int)<(s[k].toNat:Int)):=oO;go_wp2;go_round
     case rel=>
      refine⟨k+1,oO,by go_num,?_⟩;rw[l.o];intro c a;rcases bD.1 a with a|a
      . exact g.o c a
      . rw[bE.1 a];omega
     case measure=>exact mI
  .
   have e:k=s.size:=oO;subst e;have p:=Hi (by have:=g.o;rwa [bL sS]at this);by_cases d:s.toList= []
   . go_wp2;go_ret;refine⟨⟨_,rfl,?_⟩,rfl⟩;have:¬nO s.data.toList:=fun h=>h.1 ((Ik s).1 d)
     simp[d,this]
   . go_wp2;go_ret;refine⟨⟨_,rfl,?_⟩,rfl⟩;have:nO s.data.toList:=⟨fun h=>d ((Ik s).2 h),p.o⟩;simp[d,this]
def NF(s:Vs)(w:Vz)(C:s.size<=19)(n:fF s.data.toList):
 Calls prog 155 #[.string s] w fun e w'=>e=.returned (.int .u64 ((dE s.data.toList:Nat):Int))/\w'=w:=by
 have p:=Hi n;clear n;go_enter func155,ntmps155;go_wp2;go_loop [3,7] (fun r i=>∃k v:Nat,k<=s.size/\i=.int .i64 k/\r=.int .u64 v/\dE (s.data.toList.take k)=v) (fun _ i=>s.size - (intOf i).toNat)
 case atStart=>exact⟨0,0,oO,rfl,rfl,by simp[dE]⟩
 case round=>
  obtain⟨k,v,hk,rfl,rfl,b⟩:=hrel;have j:=Hi b;clear b;by_cases c:k<s.size
  .
   have a:=LG p.o k c;have q:=Hi (LH s k c);obtain⟨d,t,f,u⟩:=Pk s[k] a.1 a.2;have l:=Hi f;have D:(0:Int)<=(k:Int):=oO;have b1:(k:Int)<(s.size:Int):=oO;have x:(48:Int)+(d:Int) - 48=d:=oO;have y:v<1000000000000000000:=by have z:=DF _ (p.o.take k);rw[j.o]at z;have A:(s.data.toList.take k).length<=18:=tO;have E:10 ^ (s.data.toList.take k).length<=10 ^ 18:=cP dD A;omega
   obtain⟨h,g⟩:∃h,v*10+d=h:=⟨_,rfl⟩;have B:=Hi g;have F:(v:Int)*10+(d:Int)=(h:Int):=oO;clear f a g;go_wp2;go_round
   case rel=>exact⟨k+1,h,oO,by go_num,by go_num,by rw[q.o,IK,j.o,l.o,<-B.o];omega⟩
   case measure=>exact mI
  . have m:k=s.size:=oO;subst m;go_wp2;go_ret;have b:=j.o;rw[bL sS]at b;exact⟨by rw[b];rfl,rfl⟩
structure o9 (w:Vz) (B g cap:Nat) (ws:Vy):Prop where
 base:B<=g
 fit:ws.length<=cap
 most:cap<=maxLen
 blk:∃C,SB w g 172 C/\C.size=cap/\C.toList.take ws.length=ws.map (fun n:Nat=>Value.int .u64 n)
def o9.lt(h:o9 w B g cap a):g<w.heap.size:=by obtain⟨C,h,_⟩:=h.blk;exact h.lt
def o9.Jr(h:o9 w B g cap a):w.ownsRow B 172 1 (.slice (some ⟨g,0,none⟩) a.length cap) a.length (a.map (fun n:Nat=>Value.int .u64 n)):=by obtain⟨C,b,d,c⟩:=h.blk;exact⟨sS,.inr ⟨g,cap,C,rfl,h.base,b,h.fit,h.most,oO,by rw[eP];exact c⟩⟩
def o9.of{b:Vy}(e:b.length=n)(h:w.ownsRow B 172 1 (.slice (some ⟨g,0,none⟩) n cap) n (b.map (fun n:Nat=>Value.int .u64 n))):o9 w B g cap b:=by
 rcases h.2 with ⟨h,_⟩|⟨l,cap',C,f,hb,i,m,j,c,d⟩
 . cases h
 .
  injection f with a o k
  injection a with a
  injection a with a _ _
  subst a;subst k;rw[eP]at c d;exact⟨hb,oO,j,C,i,c,by rw[e];exact d⟩
def o9.at(h:o9 w B g cap a)(i:Nat)(b:i<a.length):w.cell? ⟨g,i,none⟩=some (.int .u64 ((a.getD i 0:Nat):Int)):=by
 obtain⟨C,c,f,d⟩:=h.blk;rw[c.cell];have e:(C.toList.take a.length)[i]?=(a.map (fun n:Nat=>Value.int .u64 (n:Int)))[i]?:=by rw[d]
 rw[aW b,aP,gE b]at e;rw[dF]at e;rw[e,aC,gE b];rfl
def o9.free(h:o9 w B g cap a)(i:Nat):w.frozen? ⟨g,i,none⟩=false:=by obtain⟨C,b,_⟩:=h.blk;exact b.free i
def o9.set(h:o9 w B g cap a)(i x:Nat):o9 (w.setCell ⟨g,i,none⟩ (.int .u64 (x:Int))) B g cap (a.set i x):=by obtain⟨C,b,c,d⟩:=h.blk;refine⟨h.base,by rw[aQ];exact h.fit,h.most,_,b.set i _,by rw[Array.size_setIfInBounds];exact c,?_⟩;rw[aQ,rA,List.take_set,d,iT]
def o9.pre(h:o9 w B g cap a):pV w g a:=by have c:=h;obtain⟨C,b,e,f⟩:=h.blk;exact⟨C,b,fun i d=>by rw[<-b.cell];exact c.at i d⟩
def Ur(c:Small 18446744073709551616 a)(d:val 18446744073709551616 a=x)(b:a.length=0∨18446744073709551616 ^ (a.length - 1)<=x):Num 18446744073709551616 a x:=by
 refine⟨c,?_,d⟩;rcases b with b|b
 . left;exact jV.1 b
 .
  by_cases f:a.length=0
  . left;exact jV.1 f
  right;intro e;obtain⟨j,g⟩:∃j,a.length=j+1:=⟨a.length - 1,oO⟩;have h:=EQ 18446744073709551616 a j oO;rw[g,gW]at e b;rw[e,fH,dV,bL oO,d]at h;have i:=qi (B:=18446744073709551616) dD (c.take j);rw[cI,eH oO]at i;omega
def Uq{over R a:Nat}{rs b:Vy}(hk:k<rs.length)(c:b.getD k 0=d)(e:l+B*h=d*R+over)(g:val B (rs.take k)+B ^ k*over=val B (b.take k)*R+a):
 val B ((rs.set k l).take (k+1))+B ^ (k+1)*h=val B (b.take (k+1))*R+a:=by
 rw[take_set _ _ _ hk,wu,cI,eH oO,sW,c,fD];have f:B ^ k*(l+B*h)=B ^ k*(d*R+over):=by rw[e]
 rw[cF,cF,<-dQ]at f;rw[jB,dQ (B ^ k) d R];omega
def Tryz.xO:∃i,prog.info? 172=some i/\i.zero=some (.int .u64 0)/\i.size=1/\i.bytes=8:=me L8
def NL(B g cap:Nat)(c:Vy)(x a:Nat)(w:Vz)(h:o9 w B g cap c)(hx:Num 18446744073709551616 c x)(hc:a<18446744073709551616)(hl:c.length<1099511627770)(y:B<=w.heap.size):
 Calls prog 154 #[.slice (some ⟨g,0,none⟩) c.length cap,.int .u64 a] w fun e w'=>(∃g' cap' s,e=.returned (.slice (some ⟨g',0,none⟩) (List.length s) cap')/\o9 w' B g' cap' s/\Num 18446744073709551616 s (x*10000000000000000000+a)/\s.length<=c.length+1)/\Below B w w'/\w.heap.size<=w'.heap.size:=by
 obtain⟨i0,hi,z,A,hz2⟩:=Tryz.xO;obtain⟨HI,T,U,V⟩:=Ic hi z A hz2;have ag:=h.fit;obtain⟨Q,C⟩:=Ia h hx;clear h hx hi z A hz2;go_enter func154,ntmps154;go_wp2;go_loopw [5,10] (fun ov W wr=>∃(k over:Nat)(rs:Vy),k<=c.length/\W=.int .i64 k/\ov=.int .u64 over/\over<18446744073709551616/\o9 wr B g cap rs/\rs.length=c.length/\Small 18446744073709551616 rs/\(∀p,k<=p->rs.getD p 0=c.getD p 0)/\val 18446744073709551616 (rs.take k)+18446744073709551616 ^ k*over=val 18446744073709551616 (c.take k)*10000000000000000000+a/\cE g w wr) (fun _ W _=>c.length - (intOf W).toNat)
 case atStart=>exact⟨0,a,c,oO,rfl,rfl,hc,Q.o,rfl,C.o.small,fun _ _=>rfl,by simp[val],cX _ _⟩
 case round=>
  obtain⟨k,over,rs,hk,rfl,rfl,D,f,E,F,G,hv,H⟩:=hrel;obtain⟨i,b,v,I,HV,j⟩:=Ie f E F G hv H;have ai:=f.lt;clear f E F G hv H;by_cases aj:k<c.length
  .
   obtain⟨d,R⟩:=nm (c.getD k 0);have X:d<18446744073709551616:=by rw[<-R];exact C.o.small.getD oO k
   have g1:=i.o.free k;have S:=i.o.at k (oB b.o);rw[I.o k lZ,R]at S;obtain⟨h,l,hh,Y,J,K⟩:=G9 d 10000000000000000000 over X dD D;obtain⟨L,HD,Z⟩:=Ib K R J;clear K R J;go_wp2_with fail;go_fit (L.o _);rintro e w2 ⟨rfl,aa⟩;subst aa;clear L;go_wp2;go_roundw
   case rel=> refine⟨k+1,h,rs.set k l,oO,by go_num,rfl,hh,i.o.set k l,by rw[aQ];exact b.o,v.o.set _ Y,?_,Uq (oB b.o) HD.o Z.o HV.o,j.o.setCell _ _⟩;intro p hp;rw[getD_set_ne _ _ _ _ oO];exact I.o p oO
   case measure=>exact mI
  .
   have ab:k=c.length:=oO;subst ab;have M:O (val 18446744073709551616 rs+18446744073709551616 ^ rs.length*over=x*10000000000000000000+a):=Hi (by
    have:=HV.o;rw[bL (by rw[b.o];exact aV _),dB,C.o.eq]at this
    rw[b.o];exact this)
   by_cases ad:over=0
   . subst ad;go_wp2;go_ret;have hv3:=M.o;rw[fH,dV]at hv3;refine⟨⟨g,cap,rs,by rw[b.o];rfl,i.o,Ur v.o hv3 ?_,by rw[b.o];omega⟩,j.o.below Q.o.base y,j.o.size⟩;by_cases hz:rs.length=0
     . exact .inl hz
     right;rw[b.o]at hz ⊢;have h1:18446744073709551616 ^ (c.length - 1)<=x:=by have:=C.o.trim.pK (B:=18446744073709551616) oO;rw[C.o.eq]at this;exact this
     omega
   .
    have q0:((over:Int) != 0)=true:=by rw[jk];omega
    have ak:=Hi b.o;have al:=j.o.size;rw[<-b.o];have ah:rs.length<1099511627770:=by rw[b.o];exact hl
    go_wp2_with (at_builtin;refine wpList_append_lies _ rfl _ _ 97 rfl B 172 i0 (.int .u64 0) 1 8 underlying97 HI.o T.o U.o V.o rfl dD _ rs.length (rs.map (fun n:Nat=>Value.int .u64 n)) rfl (Dz i.o.Jr (bR.alloc lZ _)) ⟨wr.heap.size,0,none⟩ 1 1 [Value.int .u64 (over:Int)] rfl rfl ?c1 ?c2 dD ?c3 ?c4 ?c5 _ rfl ?_)
    case c1=>exact World.news_of_block (jz wr _)
    case c2=>intro u hu;rw[bE.1 hu];rfl
    case c3=>unfold maxLen;omega
    case c4=>omega
    case c5=>rw[bH];omega
    intro S t w3 m r ae N;have af:O (o9 w3 B S t (rs++ [over])):=Hi (o9.of (n:=rs.length+1) sS (by rw[dH];exact m));have HG:=Hi r;clear m r ae N;go_wp2;go_ret;have P:=Below.grown ((j.o.below Q.o.base y).alloc oO _) HG.o wO (fun q hq=>by simp[Value.ownBlock]at hq;subst hq;exact Q.o.base)
    refine⟨⟨S,t,rs++ [over],sS,af.o,?_,by rw[aS,b.o];simp⟩,P,P.size⟩;refine⟨v.o.append (fun e he=>by rw[bE.1 he];exact D),.inr ?_,by rw[wu];exact M.o⟩;simp;omega
def Up(L:Int)(n:Nat)(b:L=n)(f:n<=2199023255552)(w:Vz):
 (Instr.makeSlice 97 (.int .i64 0) (.int .i64 L)).run prog w=.ok (.slice (some ⟨w.heap.size,0,none⟩) 0 n) (w.alloc (.cells (dA .u64 (zeros n)) 172)):=by
 subst b;obtain⟨i,c,d,e,hb⟩:=Tryz.xO;have a:=qJ (P:=prog) w 97 172 i (.int .u64 0) underlying97 c d .i64 .i64 0 n oO oO (rO hb) oO;simp only[fC,e,eP]at a;rw[<-Io];exact a
def NK(l:Vu):dE (48 :: l)=dE l:=by unfold dE;rw[List.foldl_cons];rfl
def Uo(l:Vu):dE (Lib.trimLeftB l 48)=dE l:=by
 induction l with
 |nil=>rfl
 |cons c l a=>
  unfold Lib.trimLeftB at a ⊢;rw[Y5]
  split
  . rename_i h;have:c=48:=sU h;rw[a,this,NK]
  . rfl
def Un{l:Vu}(h:fF l):fF (Lib.trimLeftB l 48):=fun c a=>h c ((JH _).mem a)
def Um(l:Vu):(Lib.trimLeftB l 48).length<=l.length:=(JH _).length_le
def ut(s:Vs):s.data.toList.length=s.size:=sS
def NJ(r:Vs)(N:Nat)(a:N<=r.size):r.data.toList=(r.extract 0 N).data.toList++(r.extract N r.size).data.toList/\(r.extract 0 N).size=N/\(r.extract N r.size).size=r.size - N:=by have hl:=ut r;refine⟨?_,by simp;omega,sS⟩;rw[Lib.extract_data,Lib.extract_data,iP,Nat.sub_zero,bL (l:=r.data.toList.drop N) (by rw[ix];omega),ux]
def xp:Value->Nat
 | .string s=>s.size
 |_=>0
def Ul(s:Vs)(w:Vz):
 Calls prog 153 #[.string s,.string ⟨#[48]⟩] w fun e w'=>e=.returned (.string ⟨(Lib.trimLeftB s.data.toList 48).toArray⟩)/\w'=w:=Any.strings_TrimLeft_one Tryz.Cl s 48 dD w
def NI(s:Vs)(w:Vz)(hs:s.size<=1073741824)(hd:fF s.data.toList):
 Calls prog 103 #[.string s] w (uN w (dE s.data.toList)):=by
 obtain⟨t,Z⟩:=nm ((⟨(Lib.trimLeftB s.data.toList 48).toArray⟩:ByteArray));have B:t.data.toList=Lib.trimLeftB s.data.toList 48:=by rw[<-Z]
 have ag:t.size<=1073741824:=by have:=Um s.data.toList;rw[<-B,ut,ut]at this;omega
 obtain⟨HV,HD,H⟩:=Ib (show dE t.data.toList=dE s.data.toList by rw[B,Uo]) (show fF t.data.toList by rw[B];exact Un hd) (Ul s w);rw[Z]at H;clear Z B hd;obtain⟨q,hq⟩:∃q:Nat,t.size / 19=q:=⟨_,rfl⟩;have q1:(t.size:Int) / 19=(q:Int):=oO;have q2:Int.tdiv (t.size:Int) 19=(q:Int):=by rw[<-q1];exact nw oO
 have ah:q<=1073741824:=oO;have aa:∀w,(Instr.makeSlice 97 (.int .i64 0) (.int .i64 ((q:Int)+1))).run prog w=.ok (.slice (some ⟨w.heap.size,0,none⟩) 0 (q+1)) (w.alloc (.cells (dA .u64 (zeros (q+1))) 172)):=
  fun w=>Up _ (q+1) oO oO w
 go_enter func103,ntmps103;go_wp2_with fail;go_fit H.o;rintro e w ⟨rfl,hw⟩;subst hw;clear H;go_wp2_with fail;clear aa q1 q2;go_loopw [0,3] (fun sv xv wr=>∃(r:Vs)(b:Vu)(g cap:Nat) (D:Vy),sv=.string r/\xv=.slice (some ⟨g,0,none⟩) D.length cap/\t.data.toList=b++r.data.toList/\(b= []∨r.size % 19=0)/\o9 wr w.heap.size g cap D/\Num 18446744073709551616 D (dE b)/\D.length<=b.length/\Below w.heap.size w wr) (fun sv _ _=>xp sv)
 case atStart=> refine⟨t,[],w.heap.size,q+1,[],rfl,rfl,rfl,.inl rfl,⟨aV _,sS,by unfold maxLen;omega,_,cK _ _ _,by simp[dA,zeros],sS⟩,rH _,sS,bR.alloc lZ _⟩
 case round=>
  obtain⟨r,b,g,cap,D,rfl,rfl,a,E,F,G,af,hb⟩:=hrel;have HF:=Hi E;clear E;obtain⟨HC,Y,HN,S⟩:=Ic a F G hb;have ai:b.length+r.size=t.size:=by rw[<-ut r,<-ut t,a,aS]
  have T:O (fF r.data.toList):=Hi (fun c U=>HD.o c (by rw[a];exact Mi _ U));clear a F G hb;by_cases h0:r.toList= []
  . go_wp2;go_ret;have ab:=(Ik r).1 h0;have n:b=t.data.toList:=by have:=HC.o;rw[ab,mU]at this;exact this.symm
    refine⟨⟨_,_,D,rfl,Y.o.pre.row _ Y.o.fit,?_,oO⟩,S.o⟩;rw[<-HV.o,<-n];exact HN.o
  .
   have aj:0<r.size:=by
    rcases eE r.size with h|h
    . exact absurd ((Ik r).2 (jV.1 (by rw[ut];exact h))) h0
    . exact h
   have ak:r.toList.isEmpty=false:=by simp[h0]
   obtain⟨m,hm⟩:∃m:Nat,r.size % 19=m:=⟨_,rfl⟩;have m1:(r.size:Int) % 19=(m:Int):=oO;have m2:Int.tmod (r.size:Int) 19=(m:Int):=by rw[<-m1];exact kN oO
   by_cases ad:m=0
   .
    subst ad;obtain⟨a,k,I⟩:=NJ r 19 oO;have j:=Hi a;have p:O (fF (r.extract 0 19).data.toList):=Hi (fun c U=>T.o c (by rw[a];exact iu _ U));have d:=Hi (fun w=>NF (r.extract 0 19) w oO p.o);obtain⟨V,C⟩:=nm (dE (r.extract 0 19).data.toList);have J:V<18446744073709551616:=by have h1:=DF _ p.o;rw[C,ut,k]at h1;have h3:10 ^ 19<=10 ^ 19:=cP dD oO;omega
    rw[C]at d;obtain⟨u,l⟩:=Ia C (k.trans rfl);obtain⟨CH,f⟩:=nm (r.extract 0 19);obtain⟨RS,i⟩:=nm (r.extract 19 r.size);rw[f,i]at j;rw[f]at l u d;rw[i]at I;obtain⟨K,L,v⟩:=Ib f i (NL w.heap.size g cap D (dE b) V wr Y.o HN.o J oO S.o.size);clear a k C f i;go_wp2_with fail;rw[K.o];go_fit (d.o _);rintro e w2 ⟨rfl,M⟩;subst M;clear d;go_wp2_with fail;go_fit v.o;rintro e w3 ⟨⟨g3,x,N,rfl,y,z,ae⟩,A,W⟩;obtain⟨P,Q,R⟩:=Ib y z (S.o.trans A);clear v y z A;go_wp2;rw[L.o];go_roundw
    case rel=>
     refine⟨RS,b++CH.data.toList,g3,x,N,rfl,rfl,?_,.inr oO,P.o,?_,?_,R.o⟩
     . rw[HC.o,j.o,lI]
     . rw[FL,u.o,ut,l.o,show (10:Nat) ^ 19=10000000000000000000 from rfl]
       exact Q.o
     . rw[aS,ut,l.o];omega
    case measure=>simp[xp];omega
   .
    have z0:((m:Int) == 0)=false:=by rw[aJ];omega
    have n:dE b*10 ^ m=dE b*10000000000000000000:=by rcases HF.o with h|h;rw[h];simp[dE];omega
    have X:=Hi n;clear n;obtain⟨a,k,I⟩:=NJ r m oO;have j:=Hi a;have p:O (fF (r.extract 0 m).data.toList):=Hi (fun c U=>T.o c (by rw[a];exact iu _ U));have d:=Hi (fun w=>NF (r.extract 0 m) w oO p.o);obtain⟨V,C⟩:=nm (dE (r.extract 0 m).data.toList);have J:V<18446744073709551616:=by have h1:=DF _ p.o;rw[C,ut,k]at h1;have h3:10 ^ m<=10 ^ 19:=cP dD oO;omega
    rw[C]at d;obtain⟨u,l⟩:=Ia C (k.trans rfl);obtain⟨CH,f⟩:=nm (r.extract 0 m);obtain⟨RS,i⟩:=nm (r.extract m r.size);rw[f,i]at j;rw[f]at l u d;rw[i]at I;obtain⟨K,L,v⟩:=Ib f i (NL w.heap.size g cap D (dE b) V wr Y.o HN.o J oO S.o.size);clear a k C f i;go_wp2_with fail;rw[K.o];go_fit (d.o _);rintro e w2 ⟨rfl,M⟩;subst M;clear d;go_wp2_with fail;go_fit v.o;rintro e w3 ⟨⟨g3,x,N,rfl,y,z,ae⟩,A,W⟩;obtain⟨P,Q,R⟩:=Ib y z (S.o.trans A);clear v y z A;go_wp2;rw[L.o];go_roundw
    case rel=>
     refine⟨RS,b++CH.data.toList,g3,x,N,rfl,rfl,?_,.inr oO,P.o,?_,?_,R.o⟩
     . rw[HC.o,j.o,lI]
     . rw[FL,u.o,ut,l.o,X.o]
       exact Q.o
     . rw[aS,ut,l.o];omega
    case measure=>simp[xp];omega
end Go.Proofs.YtfgclhpgdanmfaaGreatDoor
