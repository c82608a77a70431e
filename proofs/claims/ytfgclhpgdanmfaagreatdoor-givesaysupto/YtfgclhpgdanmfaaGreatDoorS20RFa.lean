import Derived.Test.YtfgclhpgdanmfaaGreatDoorS19RigC
namespace Go.Proofs.YtfgclhpgdanmfaaGreatDoor
set_option linter.defProp false
open Go.RowKit
open Go.Proofs.Tryz
set_option linter.unusedSimpArgs false
set_option linter.unusedVariables false
set_option maxHeartbeats 8000000
set_option maxRecDepth 1000000
variable{p:Rat}{c d x y:Int}{w w':Vz}{K j k:Nat}{u v:Ac}{e:As}
def SI(a:Vx)(cap:Nat)(d:Ad)(b:B6)(w:Vz)(J:jq w)(K:eO S2.cells w a cap d)(B:∀p,p∈ d->p.x.size<=1048576/\p.y.size<=1048576)(t:b.c.size<=1048576/\b.e.size<=1048576/\b.l.size<=1048576/\b.m.size<=1048576):
 Calls prog 84 #[.slice a d.length cap,.agg #[.int .i64 b.a,.int .i64 b.b,.string b.c,.string b.e,.string b.l,.string b.m]] w fun e w'=>∃c,e=.returned (.int .i64 c)/\jc d b c/\Below w.heap.size w w':=by
 by_cases h:qn d.length b.a/\qn d.length b.b
 . obtain⟨u,f⟩:=jX h.1.1;obtain⟨v,g⟩:=jX h.2.1;have L:u<d.length:=oB h.1.2;have M:v<d.length:=oB h.2.2;obtain⟨p,z⟩:∃p,d[u]?=some p:=⟨_,gE L⟩;obtain⟨q,A⟩:∃q,d[v]?=some q:=⟨_,gE M⟩;obtain⟨C,i⟩:=j9 p.x.data.toList;obtain⟨D,j⟩:=j9 p.y.data.toList;obtain⟨E,k⟩:=j9 q.x.data.toList;obtain⟨F,n⟩:=j9 q.y.data.toList;obtain⟨G,o⟩:=j9 b.c.data.toList;obtain⟨H,r⟩:=j9 b.l.data.toList;obtain⟨I,s⟩:=j9 b.m.data.toList;rw[f,g];refine(SQ a cap u v d p q b.c b.e b.l b.m C D E F G H I w J K z A (B p (mO z)) (B q (mO A)) ⟨t.1,t.2.2.1,t.2.2.2⟩ i j k n o r s).mono ?_;rintro e w' ⟨rfl,hb⟩;exact⟨_,rfl,.inr ⟨h.1,h.2,p,q,by rw[f];exact z,by rw[g];exact A,C,D,E,F,G,H,I,i,j,k,n,o,r,s,rfl⟩,hb⟩
 . refine(SR a d.length cap b.a b.b b.c b.e b.l b.m w h).mono ?_;rintro e w' ⟨rfl,hb⟩;exact⟨_,rfl,.inl ⟨h,rfl⟩,hb⟩
def te(j b h:Nat):Prop:=j<1∨10<j∨24<b∨20<h
def dW(js:Ad)(bs:Ap)(hs:Ak)(c at_:Int):Prop:=
 (te js.length bs.length hs.length/\c=2/\at_=0)∨
 (¬te js.length bs.length hs.length/\∃(k:Nat)(b:B6),bs[k]?=some b/\(∀(i:Nat)(x:B6),i<k->bs[i]?=some x->jc js x 0)/\jc js b c/\c≠0/\at_=(k:Int))∨
 (¬te js.length bs.length hs.length/\(∀(i:Nat)(x:B6),bs[i]?=some x->jc js x 0)/\oP js.length bs.length hs c at_)
def oP.inj{n m:Nat}{p:Ak}(h:oP n m p c x)(k:oP n m p d y):c=d/\x=y:=by
 rcases h with ⟨i,f,l,b,rfl,q,rfl⟩|⟨b,rfl,rfl⟩
 .
  rcases k with ⟨j,g,e,a,rfl,o,rfl⟩|⟨a,_,_⟩
  .
   rcases gS i j with h|rfl|h
   . exact absurd (a i f h l) q
   . rw[l]at e;cases e;exact⟨rfl,rfl⟩
   . exact absurd (b j g h e) o
  . exact absurd (a i f l) q
 .
  rcases k with ⟨j,g,e,a,rfl,o,rfl⟩|⟨a,rfl,rfl⟩
  . exact absurd (b j g e) o
  . exact⟨rfl,rfl⟩
def dW.inj{q:Ad}{r:Ap}{s:Ak}(h:dW q r s c x)(k:dW q r s d y):c=d/\x=y:=by
 rcases h with ⟨l,rfl,rfl⟩|⟨l,i,f,o,b,hb,t,rfl⟩|⟨l,b,u⟩
 .
  rcases k with ⟨_,rfl,rfl⟩|⟨e,_⟩|⟨e,_⟩
  . exact⟨rfl,rfl⟩
  . exact absurd l e
  . exact absurd l e
 .
  rcases k with ⟨e,_⟩|⟨_,j,g,m,a,n,p,rfl⟩|⟨_,a,_⟩
  . exact absurd e l
  .
   rcases gS i j with h|rfl|h
   . exact absurd (hb.inj (a i f h o)) t
   . rw[o]at m;cases m;exact⟨hb.inj n,rfl⟩
   . exact absurd (n.inj (b j g h m)) p
  . exact absurd (hb.inj (a i f o)) t
 .
  rcases k with ⟨e,_⟩|⟨_,j,g,m,a,n,p,rfl⟩|⟨_,a,v⟩
  . exact absurd e l
  . exact absurd (n.inj (b j g m)) p
  . exact u.inj v
def Hx(P T U:Vx)(c1 c2 c3:Nat)(g:Ad)(n:Ap)(D:Ak)(w:Vz)(hg:jq w)(hf:ja w P T U c1 c2 c3 g n D)(hz:jL g n D):
 Calls prog 40 #[.agg #[.slice P g.length c1,.slice T n.length c2,.slice U D.length c3]] w fun e w'=>∃c u,e=.returned (.agg #[.int .i64 c,.int .i64 u])/\dW g n D c u/\Below w.heap.size w w':=by
 obtain⟨HG,Z,HZ⟩:=Ib hg hf hz;clear hg hf hz;go_enter func40,ntmps40;obtain⟨W,hW⟩:=nm ((w.alloc (.cells #[.slice P g.length c1,.slice T n.length c2,.slice U D.length c3] 26)).alloc (.cells #[.int .i64 0,.int .i64 0] 41));have p:=Ub hW;have q:=Ud hW;have d:=Ue hW;have Q:O (Bl W W):=Hi bR;have r:=q.o.below Q.o q.o.lt;have t:=d.o.below Q.o d.o.lt;obtain⟨G,x1,x2,-⟩:=zc r;obtain⟨K,L,-⟩:=zc t;have f0:=t.free 0;have f1:=t.free 1;clear r t;rw[<-hW]at G x1 x2 K L f0 f1;have HW:=Hi hW;clear hW;by_cases M:te g.length n.length D.length
 .
  have aa:=Hi M;rcases(show (g.length:Int)<1∨(¬(g.length:Int)<1/\(10:Int)<g.length)∨(¬(g.length:Int)<1/\¬(10:Int)<g.length/\(24:Int)<n.length)∨¬(g.length:Int)<1/\¬(10:Int)<g.length/\¬(24:Int)<n.length/\(20:Int)<D.length by unfold te at M;omega) with X|⟨X,q2⟩|⟨X,q2,q3⟩|⟨X,q2,q3,q4⟩
  all_goals
   clear M;go_wp2;refine bK (v:=.agg #[.int .i64 2,.int .i64 0]) (bG rfl _ _ (w.heap.size+1) 41 #[.int .i64 2,.int .i64 0] (0,0) _ rfl (xE w _ _ _ _) underlying41 rfl iy) rfl ?_;exact⟨2,0,rfl,fT ⟨aa.o,rfl,rfl⟩,lN w _ _⟩
 have R:=Hi M;obtain⟨X,q2,q3,q4⟩:¬(g.length:Int)<1/\¬(10:Int)<g.length/\¬(24:Int)<n.length/\¬(20:Int)<D.length:=by unfold te at M;omega
 clear M;go_wp2_with fail;rw[HW.o];clear G x1 x2 K L f0 f1;go_loopw [32] (fun iv wr=>∃k:Nat,k<=n.length/\iv=.int .i64 k/\(∀(i:Nat)(x:B6),i<k->n[i]?=some x->jc g x 0)/\Below W.heap.size W wr) (fun iv _=>n.length - (intOf iv).toNat)
 case atStart=>exact⟨0,oO,rfl,fun i x hi=>oO,ac _ _⟩
 case round=>
  obtain⟨k,hk,rfl,H,hb⟩:=hrel;obtain⟨z,N,S⟩:=Ib H hb (p.o.trans (hb.mono p.o.size));clear H hb;by_cases ab:k<n.length
  .
   obtain⟨f,I⟩:∃f,n[k]?=some f:=⟨n[k],gE ab⟩;obtain⟨fb,ae,rfl,af,d0,d1,d2,d3,d4,d5⟩:=(Z.o.b.below S.o).bar I;have J:=Hi I;have q5:((k:Int)<(n.length:Int)):=oO;obtain⟨V,Y⟩:=nm (wr.alloc (.cells #[.int .i64 f.a,.int .i64 f.b,.string f.c,.string f.e,.string f.l,.string f.m] 72));have A:O (Bl W V):=Hi (by rw[<-Y];exact N.o.alloc N.o.size _);have r:=q.o.below A.o q.o.lt;obtain⟨G,-⟩:=zc r;rw[<-Y]at G;have HV:=Hi Y;clear I Y r;go_wp2_with fail;rw[HV.o];clear G d0 d1 d2 d3 d4 d5;go_fit (SI P c1 g f V ((HG.o.below p.o).below A.o) ((Z.o.j.below p.o).below A.o) HZ.o.j (HZ.o.b f (mO J.o)));rintro e w1 ⟨E,rfl,B,C⟩;obtain⟨F,s⟩:=Ia B (A.o.trans (C.mono A.o.size));clear B C;by_cases hc:E=0
   .
    subst hc;go_wp2;go_roundw
    case rel=>
     refine⟨k+1,oO,by go_num,?_,s.o⟩;intro i x hi r;rcases bB i k with h|h
     . exact z.o i x h r
     . obtain rfl:i=k:=oO;obtain rfl:=aD (J.o.symm.trans r);exact F.o
    case measure=>exact mI
   . have e0:(E != 0)=true:=sU hc;have y:=Hi (d.o.below s.o d.o.lt);obtain⟨K,L,-⟩:=zc y.o;have f0:=y.o.free 0;have f1:=y.o.free 1;go_wp2;refine bK (v:=.agg #[.int .i64 E,.int .i64 (k:Int)]) (bG rfl _ _ (w.heap.size+1) 41 #[.int .i64 E,.int .i64 (k:Int)] (0,0) _ rfl ((y.o.set 0 _).set 1 _) underlying41 rfl iy) rfl ?_;exact⟨E,_,rfl,pL (fT ⟨R.o,k,f,J.o,z.o,F.o,hc,rfl⟩),((p.o.trans (s.o.mono p.o.size)).setCell (dU _) _).setCell (dU _) _⟩
  . have ad:k=n.length:=oO;subst ad;have r:=q.o.below N.o q.o.lt;have t:=d.o.below N.o d.o.lt;obtain⟨G,x1,x2,-⟩:=zc r;obtain⟨K,L,-⟩:=zc t;have f0:=t.free 0;have f1:=t.free 1;clear r t;go_wp2_with fail;clear G x1 x2 K L f0 f1;go_fit (SJ P T U g.length c1 n.length c2 c3 D wr (Z.o.h.below S.o) oO oO);rintro e w1 ⟨E,u,rfl,B,C⟩;obtain⟨F,s⟩:=Ia B (N.o.trans (C.mono N.o.size));clear B C;have r:=q.o.below s.o q.o.lt;have t:=d.o.below s.o d.o.lt;obtain⟨G,x1,x2,-⟩:=zc r;obtain⟨K,L,-⟩:=zc t;have f0:=t.free 0;have f1:=t.free 1;clear r t;have y:=Hi (d.o.below s.o d.o.lt);go_wp2;refine bK (v:=.agg #[.int .i64 E,.int .i64 u]) (bG rfl _ _ (w.heap.size+1) 41 #[.int .i64 E,.int .i64 u] (0,0) _ rfl ((y.o.set 0 _).set 1 _) underlying41 rfl iy) rfl ?_;exact⟨E,u,rfl,pL (pL ⟨R.o,fun i x r=>z.o i x (gZ r).1 r,F.o⟩),((p.o.trans (s.o.mono p.o.size)).setCell (dU _) _).setCell (dU _) _⟩
def pC(c a:Int)(w:Vz):Calls prog 10 #[.int .i64 c,.int .i64 a] w fun e w'=>e=.returned (.agg #[.int .i64 c,.int .i64 a])/\Below w.heap.size w w':=by go_enter func10,ntmps10;go_wp2;refine bK (bG rfl _ _ w.heap.size 41 #[.int .i64 c,.int .i64 a] (0,0) _ rfl (cK w _ _) underlying41 rfl iy) rfl ?_;exact⟨rfl,bR.alloc lZ _⟩
def Fx(a b c:Vx)(c1 c2 c3 n m k:Nat)(w:Vz)(d:m<=24)(hk:k<=20):
 Calls prog 19 #[.agg #[.slice a n c1,.slice b m c2,.slice c k c3]] w fun e w'=>e=.returned (.int .i64 ((m:Int)+(k:Int)))/\Below w.heap.size w w':=by
 go_enter func19,ntmps19;go_wp2;go_ret;exact⟨rfl,bR.alloc lZ _⟩
def jh.Jq{bx a:Nat}{q:Rat}(b:cQ w bx p)(c:cQ w a q)(d:Fits p j)(e:Fits q k):
 jh w w [] [.int bx 0 p.num j,.xK bx p.den j,.int a 0 q.num k,.xK a q.den k]:=by
 refine⟨ac _ _,fun n g=>(by cases g),fun t f=>⟨?_,dI⟩⟩;simp only[aY,dI,ji]at f;rcases f with rfl|rfl|rfl|rfl
 . exact b.int d
 . exact b.xK d
 . exact c.int e
 . exact c.xK e
def jh.D7{w0:Vz}{Z:Vy}{L:List gI}{bx d f g i:Nat}{X Y:Int}(h:jh w0 w Z L)(k:.int bx d X i∈ L)(n:.int f g Y j∈ L):
 Calls prog 113 #[.pointer (some ⟨bx,d,none⟩),.pointer (some ⟨f,g,none⟩)] w fun e w'=>e=.returned (.int .i64 (oZ X Y))/\jh w0 w' Z L/\w.heap.size<=w'.heap.size:=by
 obtain⟨⟨a,cap,l,o,r⟩,p⟩:=h.ts _ k;obtain⟨⟨b,cap',m,hb,s⟩,q⟩:=h.ts _ n;refine(NW bx d X a cap l f g Y b cap' m w o hb).mono ?_;rintro e w' ⟨rfl,c⟩;exact⟨rfl,h.below c,c.size⟩
def N0(X Y:Int):oZ X Y=0↔X=Y:=by
 unfold oZ;by_cases b:X<Y
 .
  rw[aN b];constructor
  . intro h;omega
  . intro h;omega
 .
  rw[aH b];by_cases a:X=Y
  . rw[aN a];simp[a]
  . rw[aH a];simp[a]
def Uu(X Y:Int)(c:0<d):oZ (X*d) (Y*d)=oZ X Y:=by
 unfold oZ;by_cases a:X<Y
 . rw[aN a,aN (Int.mul_lt_mul_of_pos_right a c)]
 .
  have e:¬X*d<Y*d:=fun h=>a (Int.lt_of_mul_lt_mul_right h (Int.le_of_lt c))
  rw[aH a,aH e];by_cases b:X=Y
  . rw[aN b,aN (by rw[b])]
  . rw[aH b,aH (fun h=>b (Int.eq_of_mul_eq_mul_right oO h))]
def Ut(p q:Rat):p.num*(q.den:Int)=q.num*(p.den:Int)↔p=q:=by
 constructor
 . intro h;rw[<-iO p,<-iO q];exact(Rat.mkRat_eq_iff p.den_nz q.den_nz).2 h
 . rintro rfl
   rfl
def TJ(bx i j k:Nat)(p q:Rat)(w:Vz)(l:cQ w bx p)(m:cQ w i q)(n:Fits p j)(r:Fits q k)(y:j+k<274877906000):
 Calls prog 58 #[.pointer (some ⟨bx,0,none⟩),.pointer (some ⟨i,0,none⟩)] w fun e w'=>e=.returned (.int .i64 (oZ (p.num*(q.den:Int)) (q.num*(p.den:Int))))/\Below w.heap.size w w':=by
 have c:=Hi (jh.Jq l m n r);clear l m n r;by_cases d:(p.den:Int)=(q.den:Int)
 .
  obtain⟨f,t⟩:=Ia ((N0 _ _).2 d) d;clear d;go_enter func58,ntmps58;go_wp2_with (first
   |
    (go_at_call 112
     apply cM;apply zU (w0:=w);(focus(repeat(first|exact c.o|apply jQ|apply lL)));(focus(repeat(first|exact mH|apply mT)));rintro e w1 ⟨b1,s,rfl,a,b⟩;clear c;have c:=Hi a;clear a
     (try simp only[size_drew,bH]at b))
   |
    (go_at_call 113
     apply cM;apply jh.D7 (w0:=w);(focus(repeat(first|exact c.o|apply jQ|apply lL)));(focus(repeat(first|exact mH|apply mT)));(focus(repeat(first|exact mH|apply mT)));rintro e w1 ⟨rfl,a,b⟩;rw[f.o];clear c;have c:=Hi a
     clear a)
   |fail)
  go_region_held3 (fun _=>True) (trivial) (first
   |
    (go_at_call 113
     apply cM;apply jh.D7 (w0:=w);(focus(repeat(first|exact c.o|apply jQ|apply lL)));(focus(repeat(first|exact mH|apply mT)));(focus(repeat(first|exact mH|apply mT)));rintro e w1 ⟨rfl,a,b⟩;clear c;have c:=Hi a;clear a
     (try simp only[size_drew,bH]at b))
   )
  go_wp2;go_ret;refine⟨?_,c.o.base⟩;have d:=t.o;rw[d,Uu _ _ (show (0:Int)<(q.den:Int) by have:=q.den_nz;omega)];rfl
 .
  obtain⟨u,g⟩:=nm (oZ (p.den:Int) (q.den:Int));have v:(u == 0)=false:=by rw[aJ];intro h;exact d ((N0 _ _).1 (g.trans h))
  have f:=Hi g;clear d g;go_enter func58,ntmps58;go_wp2_with (first
   |
    (go_at_call 112
     apply cM;apply zU (w0:=w);(focus(repeat(first|exact c.o|apply jQ|apply lL)));(focus(repeat(first|exact mH|apply mT)));rintro e w1 ⟨b1,s,rfl,a,b⟩;clear c;have c:=Hi a;clear a
     (try simp only[size_drew,bH]at b))
   |
    (go_at_call 113
     apply cM;apply jh.D7 (w0:=w);(focus(repeat(first|exact c.o|apply jQ|apply lL)));(focus(repeat(first|exact mH|apply mT)));(focus(repeat(first|exact mH|apply mT)));rintro e w1 ⟨rfl,a,b⟩;rw[f.o];clear c;have c:=Hi a
     clear a)
   |fail)
  go_region_held3 (fun _=>True) (trivial) (first
   |
    (go_at_call 114
     apply cM;apply jh.mul (w0:=w);(focus(repeat(first|exact c.o|apply jQ|apply lL)));(focus(simp only[pD,aY,dI,ji,size_drew,bH,true_or,or_true,uW,jE]<;>omega));(focus(repeat(first|exact mH|apply mT)));(focus(repeat(first|exact mH|apply mT)));omega;rintro e w1 ⟨rfl,a,b,x⟩;clear c;have c:=Hi a;clear a
     (try simp only[size_drew,bH]at b))
   |
    (go_at_call 112
     apply cM;apply zU (w0:=w);(focus(repeat(first|exact c.o|apply jQ|apply lL)));(focus(repeat(first|exact mH|apply mT)));rintro e w1 ⟨b1,s,rfl,a,b⟩;clear c;have c:=Hi a;clear a
     (try simp only[size_drew,bH]at b))
   |
    (go_at_call 113
     apply cM;apply jh.D7 (w0:=w);(focus(repeat(first|exact c.o|apply jQ|apply lL)));(focus(repeat(first|exact mH|apply mT)));(focus(repeat(first|exact mH|apply mT)));rintro e w1 ⟨rfl,a,b⟩;clear c;have c:=Hi a;clear a
     (try simp only[size_drew,bH]at b))
   )
  all_goals
   go_wp2;go_ret;exact⟨rfl,c.o.base⟩
def Tl(p q r:Vx)(c1 c2 c3:Nat)(a:Ad)(g:Ap)(h:Ak)(w:Vz)(y:jq w)(z:ja w p q r c1 c2 c3 a g h)(A:jL a g h)(s:te a.length g.length h.length):
 Calls prog 18 #[.agg #[.slice p a.length c1,.slice q g.length c2,.slice r h.length c3]] w fun e w'=>∃c i,e=.returned (.agg #[.int .i64 c,.int .i64 i])/\dW a g h c i/\Below w.heap.size w w':=by
 obtain⟨t,D,E,F⟩:=Ic s y z A;clear y z A;go_enter func18,ntmps18;obtain⟨W,hW⟩:=nm ((w.alloc (.cells #[.slice p a.length c1,.slice q g.length c2,.slice r h.length c3] 26)).alloc (.cells #[.int .i64 0,.int .i64 0] 41));have j:=Ub hW;have k:=Ud hW;have b:=Ue hW;have d:O (Bl W W):=Hi bR;have n:=b.o.below d.o b.o.lt;obtain⟨B,x1,x2,-⟩:=zc (k.o.below d.o k.o.lt);obtain⟨u,x,-⟩:=zc n;have f0:=n.free 0;have f1:=n.free 1;clear n;rw[<-hW]at B x1 x2 u x f0 f1;have C:=Hi hW;clear hW;rcases(show ((a.length:Int) == 0)=true∨(((a.length:Int) == 0)=false/\(10:Int)<a.length)∨(((a.length:Int) == 0)=false/\¬(10:Int)<a.length/\(24:Int)<g.length)∨((a.length:Int) == 0)=false/\¬(10:Int)<a.length/\¬(24:Int)<g.length/\(20:Int)<h.length by rw[mK,aJ];unfold te at s;omega) with q1|⟨q1,q2⟩|⟨q1,q2,q3⟩|⟨q1,q2,q3,q4⟩
 all_goals
  clear s;go_wp2_with fail;rw[C.o];clear B x1 x2 u x f0 f1;go_fit (pC 2 0 W);rintro e G ⟨rfl,l⟩;have m:=Hi (d.o.trans (l.mono d.o.size));have f:=Hi (b.o.below m.o b.o.lt);obtain⟨u,x,-⟩:=zc f.o;have f0:=f.o.free 0;have f1:=f.o.free 1;clear l;go_wp2;refine bK (v:=.agg #[.int .i64 2,.int .i64 0]) (bG rfl _ _ (w.heap.size+1) 41 #[.int .i64 2,.int .i64 0] (0,0) _ rfl ((f.o.set 0 _).set 1 _) underlying41 rfl iy) rfl ?_;exact⟨_,_,rfl,fT ⟨t.o,rfl,rfl⟩,((j.o.trans (m.o.mono j.o.size)).setCell (dU _) _).setCell (dU _) _⟩
def Bz(p q:Rat):Int:=oZ (p.num*(q.den:Int)) (q.num*(p.den:Int))
def Lv(p q:Rat):Bz p q=0↔p=q:=by
 rw[<-Ut];unfold Bz oZ
 split
 .
  constructor
  . intro h;omega
  . intro h;omega
 .
  split
  . simp[*]
  . constructor
    . intro h;omega
    . intro h;omega
def FF(q:Rat)(k:Nat):Fact:=fun v w=>eF w v q/\Fits q k/\0<k
def FF.eL(q:Rat)(k:Nat):mP (FF q k):=fun _ _ _ hb h=>⟨h.1.below hb,h.2⟩
def od:=@FF.eL
def FF.below{q:Rat}(h:FF q k v w)(hb:Bl w w'):FF q k v w':=FF.eL q k v w w' hb h
def cS(w:Vz)(φ:Fact)(e:As)(w':Vz):Prop:=∃v,e=.returned v/\Below w.heap.size w w'/\φ v w'
def cS.jZ{P:Au}{f:FuncId}{a:Vw}{w:Vz}{φ:Fact}{R:Ending->World->Prop}(h:Calls P f a w (cS w φ))(b:∀v w',Below w.heap.size w w'->φ v w'->R (.returned v) w'):Calls P f a w R:=
 h.mono fun e w' ⟨v,c,hb,d⟩=>by subst c;exact b v w' hb d
def fB:=@cS.jZ
def nP.qw{q:Rat}(h:nP w q e w')(a:Fits q k)(hk:0<k):cS w (FF q k) e w':=by obtain⟨⟨v,rfl,b⟩,hb⟩:=h;exact⟨v,rfl,hb,b,a,hk⟩
def FF.DP{q:Rat}(a:FF p j u w)(b:FF q k v w)(c:j+k<68719476000):Calls prog 54 #[u,v] w (cS w (FF (p+q) (j+k+1))):=
 (Xv a.1 b.1 a.2.1 b.2.1 c).mono fun e w' h=>h.qw (a.2.1.add b.2.1) oO
def FF.qW{q:Rat}(a:FF p j u w)(b:FF q k v w)(c:j+k<68719476000):Calls prog 47 #[u,v] w (cS w (FF (p - q) (j+k+1))):=
 (CP a.1 b.1 a.2.1 b.2.1 c).mono fun e w' h=>h.qw (a.2.1.sub b.2.1) oO
def FF.tC{q:Rat}(a:FF p j u w)(b:FF q k v w)(c:j+k<68719476000):Calls prog 55 #[u,v] w (cS w (FF (p*q) (j+k))):=
 (I3 a.1 b.1 a.2.1 b.2.1 c).mono fun e w' h=>h.qw (a.2.1.mul b.2.1 a.2.2) (oB a.2.2)
def FF.over{q:Rat}(a:FF p j u w)(b:FF q k v w)(c:j+k<68719476000):Calls prog 56 #[u,v] w (cS w (FF (p / q) (j+k))):=
 (FH a.1 b.1 a.2.1 b.2.1 c).mono fun e w' h=>h.qw (a.2.1.div b.2.1 a.2.2 b.2.2) (oB a.2.2)
def FF.isZero(a:FF p j u w):Calls prog 110 #[u] w (cS w (Is (.bool (decide (p=0))))):=
 (EM a.1).mono fun e w' h=>⟨_,h.1,h.2,rfl⟩
def FF.of{s:Vs}{q:Rat}{n K:Nat}{w:Vz}(b:jq w)(c:il s.data.toList q)(d:s.size<=n)(f:n<=1073741824)(g:4*n+1<=K):Calls prog 53 #[.string s] w (cS w (FF q K)):=by refine((FR b).of s d f).mono ?_;rintro e w' ⟨h,a,x,y,z,rfl,hb⟩;obtain rfl:=c.inj a;have:=hb.get dT;exact⟨_,rfl,hb.base,this.1,this.2.1.mono g,oO⟩
def Mb:=@FF.of
def FF.DR{s:Vs}{q:Rat}(a:jq w)(b:il s.data.toList q)(c:s.size<=1073741824)(d:Fits q K)(f:0<K):Calls prog 53 #[.string s] w (cS w (FF q K)):=
 (FF.of a b c lZ lZ).mono fun e w' ⟨v,g,hb,h⟩=>⟨v,g,hb,h.1,d,f⟩
def TF(q:Rat):Fact:=fun v _=>∃s:Vs,v=.string s/\iK s.data.toList q
def TF.eL(q:Rat):mP (TF q):=fun _ _ _ _ h=>h
def FF.uw(b:jq w)(a:FF p j u w)(c:j<=274877906944):Calls prog 57 #[u] w (cS w (TF p)):=
 (I2 (b.tab (by unfold uc;kernel_rfl)) a.1 a.2.1 c).mono fun e w' h=>by obtain⟨⟨s,rfl,d⟩,hb⟩:=h;exact⟨_,rfl,hb,s,rfl,d⟩
def FF.zero(w:Vz):FF 0 1 (.agg #[.bool false,.slice none 0 0,.slice none 0 0]) w:=⟨nR _,nr,dD⟩
def Ma:=@FF.zero
def FF.mono{q:Rat}{k k':Nat}{v:Ac}{w:Vz}(h:FF q k v w)(hk:k<=k'):FF q k' v w:=⟨h.1,h.2.1.mono hk,aF h.2.2 hk⟩
def zF:=@FF.mono
def FF.oe{q:Rat}(h:FF q k v w):∃x y z,v=.agg #[x,y,z]:=by obtain⟨⟨neg,a,n,c,b,m,d,rfl,_⟩,_⟩:=h;exact⟨_,_,_,rfl⟩
def RF(q:Rat)(k:Nat):Fact:=fun v w=>∃b,v=.pointer (some ⟨b,0,none⟩)/\cQ w b q/\Fits q k/\0<k
def RF.eL(q:Rat)(k:Nat):mP (RF q k):=fun _ _ _ hb ⟨b,e,h,r⟩=>⟨b,e,h.below hb,r⟩
def xF:=@RF.eL
def RF.below{q:Rat}(h:RF q k v w)(hb:Bl w w'):RF q k v w':=RF.eL q k v w w' hb h
def oN.qw{q:Rat}(h:oN w q e w')(a:Fits q k)(hk:0<k):cS w (RF q k) e w':=by obtain⟨⟨b,rfl,_,c⟩,hb⟩:=h;exact⟨_,rfl,hb,b,rfl,c,a,hk⟩
def RF.mul{q:Rat}(d:RF p j u w)(f:RF q k v w)(g:j+k<274877906000):Calls prog 37 #[u,v] w (cS w (RF (p*q) (j+k))):=by obtain⟨b,rfl,i,f1,a⟩:=d;obtain⟨c,rfl,l,f2,_⟩:=f;exact(M7 b c j k p q w i l f1 f2 g).mono fun e w' h=>h.qw (f1.mul f2 a) oO
def RF.uw(h:RF p j u w)(a:j<=1099511627776):Calls prog 20 #[u] w (cS w (TF p)):=by obtain⟨b,rfl,c,f1,_⟩:=h;exact(Dh b j p w c f1 a).mono fun e w' ⟨⟨s,d,f⟩,hb⟩=>⟨_,d,hb,s,rfl,f⟩
def RF.of{s:Vs}{q:Rat}{K:Nat}{w:Vz}(b:jq w)(c:il s.data.toList q)(d:s.size<=1073741824)(f:Fits q K)(g:0<K):Calls prog 36 #[.string s] w (cS w (RF q K)):=by obtain⟨m,h⟩:=b.most;refine(M8 s m w h d).mono ?_;rintro e w' ⟨j,a,i⟩;obtain rfl:=c.inj a;exact i.qw f g
def zO:=@RF.of
def RF.D7{q:Rat}(a:RF p j u w)(d:RF q k v w)(f:j+k<274877906000):Calls prog 58 #[u,v] w (cS w (Is (.int .i64 (Bz p q)))):=by obtain⟨b,rfl,g,f1,_⟩:=a;obtain⟨c,rfl,i,f2,_⟩:=d;exact(TJ b c j k p q w g i f1 f2 f).mono fun e w' h=>⟨_,h.1,h.2,rfl⟩
def RF.quo{q:Rat}(f:RF p j u w)(g:RF q k v w)(i:q≠0)(l:j+k<274877906000):Calls prog 65 #[u,v] w (cS w (RF (p / q) (j+k))):=by obtain⟨b,rfl,m,f1,a⟩:=f;obtain⟨c,rfl,n,f2,d⟩:=g;exact(M6 b c j k p q w m n f1 f2 l (fun h=>i (jA.1 h))).mono fun e w' h=>h.qw (f1.div f2 a d) oO
def RF.A1{q:Rat}(h:RF q k v w)(hk:k<=K):RF q K v w:=by obtain⟨b,e,r,f,p⟩:=h;exact⟨b,e,r,f.mono hk,oO⟩
end Go.Proofs.YtfgclhpgdanmfaaGreatDoor
