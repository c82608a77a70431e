import Derived.Test.YtfgclhpgdanmfaaGreatDoorS24StillC
namespace Go.Proofs.YtfgclhpgdanmfaaGreatDoor
set_option linter.defProp false
open Go.RowKit
open Go.Proofs.Tryz
set_option linter.unusedSimpArgs false
set_option linter.unusedVariables false
set_option maxHeartbeats 8000000
set_option maxRecDepth 1000000
variable{p:Aw}{i:Nat}{w:Vz}
def ng(v:cW)(p:Aw):cW:=qQ (qQ v (2*p.1) (v (2*p.1) - p.2.1)) (2*p.1+1) (v (2*p.1+1) - p.2.2)
def pJ(vs:Ai):cW:=vs.foldl ng (fun _=>0)
def Fq{vs:Ai}{k:Nat}(h:vs[k]?=some p):pJ (vs.take (k+1))=ng (pJ (vs.take k)) p:=by unfold pJ;rw[jU,h];simp[List.foldl_append]
def vZ{v:cW}:ng v p (2*p.1)=v (2*p.1) - p.2.1:=by unfold ng;rw[sT _ _ oO,yC]
def vW{v:cW}:ng v p (2*p.1+1)=v (2*p.1+1) - p.2.2:=yC _ _ _
def JQ{v:cW}(a:i≠2*p.1)(b:i≠2*p.1+1):ng v p i=v i:=by unfold ng;rw[sT _ _ b,sT _ _ a]
structure wH (n:Nat) (l:L3) (p:Aw):Prop where
 j:l.j=(p.1:Nat)
 lt:p.1<n
 x:il l.x.data.toList p.2.1
 y:il l.y.data.toList p.2.2
 sx:l.x.size<=1048576
 sy:l.y.size<=1048576
def of_val{s:Vs}{q:Rat}(a:jq w)(b:il s.data.toList q)(g:s.size<=1048576):Calls prog 53 #[.string s] w (nP w q):=by obtain⟨m,c⟩:=a.most;refine(NH s m w c oO).mono ?_;rintro e w' ⟨h,d,f⟩;rw[b.inj d];exact f
def JP{g K:Nat}{us:Ah}{x y z:Ac}{q:Rat}(h:iQ w g us)(a:i<us.length)(b:eF w (.agg #[x,y,z]) q)(c:Fits q K)(d:0<K):iQ (((w.setCell ⟨g,i*3,none⟩ x).setCell ⟨g,i*3+1,none⟩ y).setCell ⟨g,i*3+2,none⟩ z) g (us.set i ⟨x,y,z,q,K⟩):=
 h.set (k:=i) (e:=⟨x,y,z,q,K⟩) a ⟨b,c,d⟩
def Rm(a1 a2 a3 al:Vx)(c1 c2 c3 cl nj nb nh K:Nat)(z:AE)(vs:Ai)(w:Vz)(hg:jq w)(hl:eO L3.cells w al cl z)(bx:z.length<=1000)(hn:nj<=10)(aq:vs.length=z.length)(ar:∀(i:Nat)(l:L3)(p:Aw),z[i]?=some l->vs[i]?=some p->wH nj l p)(ag:0<K)(hK:K+4194305<68719476000)(ab:∀k i,Fits (pJ (vs.take k) i) K):
 Calls prog 42 #[.agg #[.slice a1 nj c1,.slice a2 nb c2,.slice a3 nh c3],.slice al z.length cl] w fun e w'=>(∃(g N:Nat)(us:Ah),N=2*nj/\e=.returned (.slice (some ⟨g,0,none⟩) N N)/\iQ w' g us/\us.length=N/\∀(i:Nat)(t:FE),us[i]?=some t->t.q=pJ vs i/\t.k<=K)/\Below w.heap.size w w':=by
 obtain⟨HG,ah,ai,bi,HF⟩:=Id hg hl aq ar ab;obtain⟨N,hN⟩:=nm (2*nj);have au:=fun w=>B3 N oO w
 obtain⟨MC,aj⟩:=nm (((List.replicate N FE.zero).flatMap FE.cells).toArray);rw[aj]at au;have bj:=Hi aj.symm;have av:2*(nj:Int)=(N:Int):=oO;have aw:=Hi (fun u=>Fv a1 a2 a3 c1 c2 c3 nj nb nh u hn);simp only[av]at aw;have HN:=Hi hN;clear hN av;clear hg hl aq ar ab aj;go_enter func42,ntmps42;go_wp2_with fail;go_fit (aw.o _);rintro e w1 ⟨rfl,ax⟩;have ak:=Hi ((bR.alloc lZ _).trans (ax.mono sS));clear ax;obtain⟨g,hg⟩:=nm w1.heap.size;obtain⟨V,hV⟩:=nm (w1.alloc (.cells MC 99));have m:w.heap.size<=g:=by rw[<-hg];exact ak.o.size
 have bk:O (Bl w V):=Hi (by rw[<-hV];exact ak.o.alloc ak.o.size _);have bl:O (iQ V g (List.replicate N FE.zero)):=Hi (by rw[<-hV,<-hg];exact DL w1 N MC bj.o);have HV:=Hi hV;clear hV;go_wp2_with fail;rw[HV.o]
 try rw[hg]
 clear au;go_loopw [14] (fun i wr=>∃(k:Nat)(us:Ah),k<=z.length/\i=.int .i64 k/\us.length=N/\iQ wr g us/\(∀(i:Nat)(t:FE),us[i]?=some t->t.q=pJ (vs.take k) i/\t.k<=K)/\Below w.heap.size w wr) (fun i _=>z.length - (intOf i).toNat)
 case atStart=> refine⟨0,_,cJ _,rfl,sS,bl.o,fun i t f=>?_,bk.o⟩;obtain⟨_,rfl⟩:=fM.1 (mO f);exact⟨rfl,ag⟩
 case round=>
  obtain⟨k,us,hk,rfl,ay,az,a0,hb⟩:=hrel;obtain⟨HU,HQ,am,HB⟩:=Ic ay az a0 hb;clear ay az a0 hb;by_cases bm:k<z.length
  .
   obtain⟨l,hl⟩:∃l,z[k]?=some l:=⟨z[k],gE bm⟩;obtain⟨p,hp⟩:∃p,vs[k]?=some p:=⟨vs[k]'(oB ai.o),gE (oB ai.o)⟩;have M:=bi.o k l p hl hp;obtain⟨lb,lo,rfl,a4,d0,d1,d2⟩:=(ah.o.below HB.o).load hl;obtain⟨bz,b0,e',b1,_⟩:=ah.o.load hl;cases e';rw[M.j]at d0;have bn:lb≠g:=oO;have bw:=bn.symm;obtain⟨X,hX⟩:=nm (2*p.1);obtain⟨Y,hY⟩:=nm (2*p.1+1);have a6:2*(p.1:Int)=(X:Int):=oO;have a7:2*(p.1:Int)+1=(Y:Int):=oO;have a8:=M.lt;have b2:X<N:=oB HN.o;have b3:Y<N:=oB HN.o;obtain⟨a9,ba⟩:=Ia (fun u=>Fu p.1 u oO) (fun u=>Ft p.1 u oO);simp only[a7]at ba;simp only[a6]at a9;have bb:X≠Y:=oO;obtain⟨HX,HY,HP,c⟩:=Ic hX hY hp M;have q1:((k:Int)<(z.length:Int)):=oO;have q2:((X:Int)<(N:Int)):=oO;have q3:((Y:Int)<(N:Int)):=oO;have bo:=Hi hl;clear hl hp M hX hY a6 a7 a8;go_wp2_with fail;go_region_held3 (fun v=>v.cell? ⟨lb,lo+k*3,none⟩=some (.int .i64 (p.1:Nat))) ((first|(simp [*];done)|go_keep)) (first
    |(
     go_at_call 88;apply cM;apply a9.o
     rintro e2 w2 ⟨rfl,rfl⟩)
    |(
     go_at_call 89;apply cM;apply ba.o
     rintro e2 w2 ⟨rfl,rfl⟩)
    |fail)
   obtain⟨z0,P⟩:∃z0,us[X]?=some z0:=⟨us[X]'(oB HU.o),gE (oB HU.o)⟩;obtain⟨HZ,an⟩:=Ia (HQ.o.row.get P) (am.o _ _ P);obtain⟨gy,oy,ao,_,t0,t1,t2⟩:=HQ.o.row.at P;cases ao;simp only[cC]at t0 t1 t2;obtain⟨B,C,D,bc⟩:=Ic t0 t1 t2 d1;have bd:=HQ.o.blk.lt;obtain⟨ap,E⟩:=Ia (fun u (hu:Bl wr u)=>of_val ((HG.o.below HB.o).below hu) c.o.x c.o.sx) (c.o.x.fits (n:=1048576) (by have:=c.o.sx;simpa using this));have bp:=an.o.2;clear P;go_wp2_with fail
   first|(go_region_with (first
    |(
     go_at_call 53;apply cM;apply ap.o;(focus(repeat(first|exact ac _ _|apply CK|apply CJ)));rintro e2 w2 ⟨⟨v2,rfl,hv2⟩,b⟩;obtain⟨n2,F,l2,G,m2,o2,p2,rfl,hv2⟩:=hv2;(first
       |have a:O (Bl wr w2):=Hi b
       |have a:O (Bl wr w2):=Hi (bR.drew.trans b)
       |have a:O (Bl wr w2):=Hi (bR.drew.drew.trans b))
     have r:O (eF w2 (.agg #[.bool n2,.slice F l2 G,.slice m2 o2 p2]) p.2.1):=Hi ⟨n2,F,l2,G,m2,o2,p2,rfl,hv2⟩;clear hv2 b t0 t1 t2 d1;obtain⟨t0,t1,t2⟩:=Jb a.o bd B.o C.o D.o;have d1:=ce a.o a4 bc.o
     skip)
    |(
     go_at_call 47;apply cM;(first
       |exact CP (HZ.o.1.below a.o) r.o HZ.o.2.1 E.o oO
       |exact CP (HZ.o.1.below a.o.drew) (r.o.below bR.drew) HZ.o.2.1 E.o oO)
     rintro e3 w3 ⟨⟨v3,rfl,hv3⟩,d⟩;obtain⟨n3,Q,l3,R,m3,o3,p3,rfl,hv3⟩:=hv3;(first
       |have s:=Hi (a.o.trans (d.mono a.o.size))
       |have s:O (Bl wr w3):=Hi (a.o.trans (((bR.drew).trans d).mono a.o.size)))
     have be:O (eF w3 (.agg #[.bool n3,.slice Q l3 R,.slice m3 o3 p3]) (z0.q - p.2.1)):=Hi ⟨n3,Q,l3,R,m3,o3,p3,rfl,hv3⟩;have H:=Hi (HQ.o.below s.o);clear hv3 d t0 t1 t2 d1;obtain⟨t0,t1,t2⟩:=Jb s.o bd B.o C.o D.o;have d1:=ce s.o a4 bc.o;have f0:=H.o.blk.free (X*3);have f1:=H.o.blk.free (X*3+1);have f2:=H.o.blk.free (X*3+2)
     skip)
    |fail))|fail
   all_goals
    have bf:Fits (z0.q - p.2.1) K:=by have h1:=HF.o (k+1) X;rw[Fq HP.o,<-HX.o,vZ,HX.o,<-an.o.1]at h1;exact h1
    obtain⟨us1,h⟩:=nm (us.set X ⟨.bool n3,.slice Q l3 R,.slice m3 o3 p3,z0.q - p.2.1,K⟩);obtain⟨A,S⟩:=nm (((w3.setCell ⟨g,X*3,none⟩ (.bool n3)).setCell ⟨g,X*3+1,none⟩ (.slice Q l3 R)).setCell ⟨g,X*3+2,none⟩ (.slice m3 o3 p3));have T:O (iQ A g us1):=Hi (by rw[<-S,<-h];exact JP H.o (oB HU.o) be.o bf ag);have I:O (us1.length=N):=Hi (by rw[<-h,aQ];exact HU.o);have ad:O (∀(i:Nat)(t:FE),us1[i]?=some t->t.q=(if i=X then z0.q - p.2.1 else pJ (vs.take k) i)/\t.k<=K):=Hi (fun i t f=>by
     rw[<-h]at f;by_cases e:i=X
     . subst e;rw[bP (oB HU.o)]at f;obtain rfl:=aD f;rw[aN rfl];exact⟨rfl,aV _⟩
     . rw[bN (gH e)]at f;rw[aH e]
       exact am.o i t f)
    have U:O (Bl w A):=Hi (by rw[<-S];exact(((HB.o.trans (s.o.mono HB.o.size)).setCell (p:=⟨g,X*3,none⟩) m _).setCell (p:=⟨g,X*3+1,none⟩) m _).setCell (p:=⟨g,X*3+2,none⟩) m _);obtain⟨b4,b5,bq,ae,d0,d1,d2⟩:=(ah.o.below U.o).load bo.o;cases bq;obtain⟨br,bs⟩:=Ia an.o.1 S;clear bf h S t0 t1 t2 f0 f1 f2 d0 d1 a r H s be;go_wp2_with fail;rw[bs.o];obtain⟨z1,W⟩:∃z1,us1[Y]?=some z1:=⟨us1[Y]'(oB I.o),gE (oB I.o)⟩;obtain⟨Z,J⟩:=Ia (T.o.row.get W) (ad.o _ _ W);obtain⟨gy,oy,ao,_,t0,t1,t2⟩:=T.o.row.at W;cases ao;simp only[cC]at t0 t1 t2;obtain⟨B,C,D,bg⟩:=Ic t0 t1 t2 d2;have af:=T.o.blk.lt;obtain⟨ap,E⟩:=Ia (fun u (hu:Bl A u)=>of_val ((HG.o.below U.o).below hu) c.o.y c.o.sy) (c.o.y.fits (n:=1048576) (by have:=c.o.sy;simpa using this));have bp:=J.o.2;clear W
    first|(go_region_with (first
     |(
      go_at_call 53;apply cM;apply ap.o;(focus(repeat(first|exact ac _ _|apply CK|apply CJ)));rintro e2 w4 ⟨⟨v2,rfl,hv2⟩,b⟩;obtain⟨n2,F,l2,G,m2,o2,p2,rfl,hv2⟩:=hv2;(first
        |have a:O (Bl A w4):=Hi b
        |have a:O (Bl A w4):=Hi (bR.drew.trans b)
        |have a:O (Bl A w4):=Hi (bR.drew.drew.trans b))
      have r:O (eF w4 (.agg #[.bool n2,.slice F l2 G,.slice m2 o2 p2]) p.2.2):=Hi ⟨n2,F,l2,G,m2,o2,p2,rfl,hv2⟩;clear hv2 b t0 t1 t2 d2;obtain⟨t0,t1,t2⟩:=Jb a.o af B.o C.o D.o;have d2:=ce a.o ae bg.o
      skip)
     |(
      go_at_call 47;apply cM;(first
        |exact CP (Z.o.1.below a.o) r.o Z.o.2.1 E.o oO
        |exact CP (Z.o.1.below a.o.drew) (r.o.below bR.drew) Z.o.2.1 E.o oO)
      rintro e3 w5 ⟨⟨v3,rfl,hv3⟩,d⟩;obtain⟨n5,a5,l5,c5,m5,o5,p5,rfl,hv3⟩:=hv3;(first
        |have L:=Hi (a.o.trans (d.mono a.o.size))
        |have L:O (Bl A w5):=Hi (a.o.trans (((bR.drew).trans d).mono a.o.size)))
      have bt:O (eF w5 (.agg #[.bool n5,.slice a5 l5 c5,.slice m5 o5 p5]) (z1.q - p.2.2)):=Hi ⟨n5,a5,l5,c5,m5,o5,p5,rfl,hv3⟩;have aa:=Hi (T.o.below L.o);clear hv3 d t0 t1 t2 d2;obtain⟨t0,t1,t2⟩:=Jb L.o af B.o C.o D.o;have d2:=ce L.o ae bg.o;have f0:=aa.o.blk.free (Y*3);have f1:=aa.o.blk.free (Y*3+1);have f2:=aa.o.blk.free (Y*3+2)
      skip)
     |fail))|fail
    all_goals
     have bh:Fits (z1.q - p.2.2) K:=by have h1:=HF.o (k+1) Y;have h2:=J.o.1;rw[aH (gH bb)]at h2;rw[Fq HP.o,<-HY.o,vW,HY.o,<-h2]at h1;exact h1
     have bu:=Hi bh;clear bh t0 t1 t2 f0 f1 f2 d2;go_wp2_with fail;refine⟨⟨k+1,_,oO,by go_num,by rw[aQ];exact I.o,JP aa.o (oB I.o) bt.o bu.o ag,fun i t f=>?_,(((U.o.trans (L.o.mono U.o.size)).setCell (p:=⟨g,Y*3,none⟩) m _).setCell (p:=⟨g,Y*3+1,none⟩) m _).setCell (p:=⟨g,Y*3+2,none⟩) m _⟩,?_⟩
     . rw[Fq HP.o];by_cases e:i=Y
       . subst e;rw[bP (oB I.o)]at f;obtain rfl:=aD f;have h2:=J.o.1;rw[aH (gH bb)]at h2;refine⟨?_,aV _⟩;rw[<-HY.o,vW,HY.o,<-h2]
       . rw[bN (gH e)]at f;obtain⟨h3,h4⟩:=ad.o i t f;refine⟨?_,h4⟩;by_cases e2:i=X
         . subst e2;rw[aN rfl]at h3;rw[h3,<-HX.o,vZ,HX.o,br.o]
         . rw[aH e2]at h3
           rw[h3,JQ (by rw[HX.o];exact e2) (by rw[HY.o];exact e)]
     . simp[intOf]
       omega
  . have bv:k=z.length:=oO;subst bv;go_wp2;go_ret;refine⟨⟨g,N,us,HN.o.symm,rfl,HQ.o,HU.o,fun i t f=>?_⟩,HB.o⟩;have:=am.o i t f;rw[bL (oB ai.o)]at this;exact this
section
open Go
section
variable {P:Au} {ops:Af} {Q:Ab} {md:Region.Mode} {S:AB} {D:Vy}
def jN(D:Vy)(listed:Ao):Prop:=∀d∈ D,listed.getD d true=false
def jN.set{a:Ao}{j:Nat}(h:jN D a)(f:j ∉ D):jN D (a.setIfInBounds j true):=fun d c=>by
 have b:j≠d:=fun e=>f (e ▸ c)
 rw[_root_.Go.getD_set_ne true b];exact h d c
def jN.uV{a:Ao}{j:Nat}(h:jN D (a.setIfInBounds j true)):j ∉ D/\jN D a:=by
 have f:j ∉ D:=fun b=>by have:=h j b;simp at this
 refine⟨f,fun d b=>?_⟩;have c:j≠d:=fun e=>f (e ▸ b)
 have:=h d b;rw[_root_.Go.getD_set_ne true c]at this;exact this
def eM(P:Au)(md:Region.Mode)(ops:Af)(Q:Ab)(S:AB)(D:Vy):Nat->Array Bool->Act->World->Prop
 |0,listed,a,w=>Region.ready md ops listed= []/\Q .normal a w
 |fuel+1,listed,a,w=>(Region.ready md ops listed= []->Q .normal a w)/\∀i∈ Region.ready md ops listed,wpOp P ops Q i (fun a' w'=>(i ∉ D->jN D listed->S w')/\eM P md ops Q S D fuel (listed.setIfInBounds i true) a' w') a w
theorem eM.any:∀(b:Nat)(c:Ao)(a:Act) (w:Vz),eM P md ops Q S D b c a w->wpAny P md ops Q b c a w
 |0,_,_,_,h=>h
 |b+1,_,_,_,h=>⟨h.1,fun i d=>rJ (fun e w' f=>eM.any b _ e w' f.2) (h.2 i d)⟩
def FG{i j:Nat}{a:Ao}{g:Oper}(k:i∈ Region.ready md ops a)(b:∀e∈ g.after,Region.binds md e=true->a.getD e.on false=true):∀e∈ g.after,Region.binds md e=true->e.on≠i:=fun e l hb d=>by
 have c:=b e l hb;have h:=(mC.1 k).1;rw[d]at c;rcases bB i a.size with f|f
 . simp[f]at h c;rw[h]at c;cases c
 . simp[dX f]at c
def eM.first{i:Nat}{u:Oper}{v:Ac}(N:ops[i]?=some u)(r:∀(j:Nat)(o:Oper) z b,ops[j]?=some o->o.op≠.select z b)(V:∀c a w,Q (.panic c) (a.put u.dst v) w->Q (.panic c) a w)(hk:D.all (fun k=>waits md ops k i)=true):
 ∀(f:Nat)(d:Ao)(a:Act) (w:Vz),
  (∀j y,ops[j]?=some y->j≠i->d.getD j true=false->(∀e∈ y.after,Region.binds md e=true->e.on≠i)->u.apart ops y=true)->
  i∈ Region.ready md ops d->YieldsIf P ops S u v a->jN D d->S w->
  eM P md ops Q S D f (d.setIfInBounds i true) (a.put u.dst v) w->eM P md ops Q S D (f+1) d a w:=by
 intro f
 induction f with
 |zero=>
  intro d a w _ n K O A H;refine⟨fun h=>(by rw[h]at n;cases n),fun j L=>?_⟩;by_cases g:j=i
  . subst g;exact K.wpOp N A ⟨fun _ _=>A,H⟩
  . have:=jM L g;rw[H.1]at this;cases this
 |succ f W=>
  intro d a w l n K O A H;refine⟨fun h=>(by rw[h]at n;cases n),fun j L=>?_⟩;by_cases g:j=i
  . subst g;exact K.wpOp N A ⟨fun _ _=>A,H⟩
  .
   have X:=H.2 j (jM L g);obtain⟨s,y,p,B⟩:=mC.1 L;have t:=FG (j:=j) n B;have C:j ∉ D:=fun e=>G8 (k:=j) (ij.1 hk j e) p t
   have E:=O.set (fun e=>by
    obtain⟨_,Y,F,x⟩:=mC.1 n
    exact G8 (k:=i) (ij.1 hk i e) F (FG (j:=i) n x))
   have Z:=wpOp_putIf p (l j y p g s t) (fun z b=>r i u z b N) (fun z b=>r j y z b p) V K X;have q:∀m G,ops[m]?=some G->m≠i->(d.setIfInBounds j true).getD m true=false->
    (∀e∈ G.after,Region.binds md e=true->e.on≠i)->u.apart ops G=true:=fun m G hm R I T=>by
    refine l m G hm R ?_ T;by_cases J:j=m
    . subst J;exact s
    . rw[_root_.Go.getD_set_ne true J]at I;exact I
   refine rJ (fun a' w' M=>⟨fun U _=>M.2.1 U E,W (d.setIfInBounds j true) a' w' q (jM n (gH g)) M.1 (O.set C) (M.2.1 C E) ?_⟩) Z;rw[lP _ _ g];exact M.2.2
def eM.D6{i:Nat}{q:Oper}{v:Ac}(J:ops[i]?=some q)(n:∀(j:Nat)(o:Oper) u b,ops[j]?=some o->o.op≠.select u b)(O:∀c a w,Q (.panic c) (a.put q.dst v) w->Q (.panic c) a w)(x:i ∉ D):
 ∀(f:Nat)(d:Ao)(a:Act) (w:Vz),
  (∀j t,ops[j]?=some t->j≠i->d.getD j true=false->(∀e∈ t.after,Region.binds md e=true->e.on≠i)->q.apart ops t=true)->
  i∈ Region.ready md ops d->YieldsIf P ops (fun _=>True) q v a->(jN D d->S w)->
  eM P md ops Q S D f (d.setIfInBounds i true) (a.put q.dst v) w->eM P md ops Q S D (f+1) d a w:=by
 intro f
 induction f with
 |zero=>
  intro d a w _ r E K H;refine⟨fun h=>(by rw[h]at r;cases r),fun j F=>?_⟩;by_cases g:j=i
  . subst g;exact E.wpOp J trivial ⟨fun _=>K,H⟩
  . have:=jM F g;rw[H.1]at this;cases this
 |succ f R=>
  intro d a w k r E K H;refine⟨fun h=>(by rw[h]at r;cases r),fun j F=>?_⟩;by_cases g:j=i
  . subst g;exact E.wpOp J trivial ⟨fun _=>K,H⟩
  .
   have T:=H.2 j (jM F g);obtain⟨p,t,s,y⟩:=mC.1 F;have z:=FG (j:=j) r y;have U:=wpOp_putIf s (k j t s g p z) (fun u b=>n i q u b J) (fun u b=>n j t u b s) O E T;have l:∀m A,ops[m]?=some A->m≠i->(d.setIfInBounds j true).getD m true=false->
    (∀e∈ A.after,Region.binds md e=true->e.on≠i)->q.apart ops A=true:=fun m A V L B M=>by
    refine k m A V L ?_ M;by_cases C:j=m
    . subst C;exact p
    . rw[_root_.Go.getD_set_ne true C]at B;exact B
   refine rJ (fun W w' G=>⟨?_,R (d.setIfInBounds j true) W w' l (jM r (gH g)) G.1 ?_ ?_⟩) U
   . intro N I
     exact G.2.1 N (I.set x)
   . intro I
     exact G.2.1 I.uV.1 (I.uV.2.set x)
   . rw[lP _ _ g]
     exact G.2.2
def NE{a:Ao}(h:D.all (fun d=>!(a.getD d true))=true):jN D a:=fun d b=>by
 have:=ij.1 h d b
 simpa using this
def FD{a:Ao}{d:Nat}(b:D.contains d=true)(h:a.getD d true=true):¬jN D a:=fun c=>by have:=c d (sU b);rw[h]at this;cases this
def eM.take{i:Nat}{f:Oper}{v:Ac}{e:Nat}{b:Ao}{a:Act}{w:Vz}(g:ops[i]?=some f)(j:Region.noSelect ops=true)(l:Region.free md ops b i=true)(m:(Region.ready md ops b).contains i=true)(hk:D.all (fun k=>waits md ops k i)=true)(n:D.all (fun d=>!(b.getD d true))=true)(o:∀c a w,Q (.panic c) (a.put f.dst v) w->Q (.panic c) a w)(p:YieldsIf P ops S f v a)(q:S w)(h:eM P md ops Q S D e (b.setIfInBounds i true) (a.put f.dst v) w):eM P md ops Q S D (e+1) b a w:=
 eM.first g (l8 j) o hk e b a w (qp g l) (sU m) p (NE n) q h
def zG:=@eM.take
def eM.rI{i:Nat}{e:Oper}{v:Ac}{d:Nat}{b:Ao}{a:Act}{w:Vz}(f:ops[i]?=some e)(j:Region.noSelect ops=true)(k:Region.free md ops b i=true)(l:(Region.ready md ops b).contains i=true)(g:D.contains i=false)(m:∀c a w,Q (.panic c) (a.put e.dst v) w->Q (.panic c) a w)(n:YieldsIf P ops (fun _=>True) e v a)(o:jN D b->S w)(h:eM P md ops Q S D d (b.setIfInBounds i true) (a.put e.dst v) w):eM P md ops Q S D (d+1) b a w:=
 eM.D6 f (l8 j) m (fun p=>by rw[Mj.2 p]at g;cases g) d b a w (qp f k) (sU l) n o h
def zV:=@eM.rI
def ir(P:Au)(md:Region.Mode)(ops:Af)(Q:Ab)(S:AB)(D:Vy)(fuel:Nat)(listed:Ao)(a:Act)(w:Vz)(rs:Vy):Prop:=
 ∀i∈ rs,wpOp P ops Q i (fun a' w'=>(i ∉ D->jN D listed->S w')/\eM P md ops Q S D fuel (listed.setIfInBounds i true) a' w') a w
def ir.nil{c:Nat}{b:Ao}{a:Act}{w:Vz}:ir P md ops Q S D c b a w []:=fun _ h=>by cases h
def nT:=@ir.nil
def ir.cons{c:Nat}{b:Ao}{a:Act}{w:Vz}{i:Nat}{o:Oper}{rs:Vy}(e:ops[i]?=some o)(h:∀K':Ar,Shut (∀a w,(i ∉ D->jN D b->S w)->eM P md ops Q S D c (b.setIfInBounds i true) a w->K' a w)->if Region.wanted o (yielded ops a.tmps)=true then Oper.wp P o a w K' Q else K' (a.put o.dst undef) w)(f:ir P md ops Q S D c b a w rs):ir P md ops Q S D c b a w (i :: rs):=fun j d=>by
 rcases aY.1 d with rfl|d
 . exact De e (fun K' g=>h K' (fun a w k hW=>g a w ⟨k,hW⟩))
 . exact f j d
def kT:=@ir.cons
def eM.ready{rs:Vy}{c:Nat}{b:Ao}{a:Act}{w:Vz}(e:Region.ready md ops b=rs)(d:rs≠ [])(h:ir P md ops Q S D c b a w rs):eM P md ops Q S D (c+1) b a w:=by refine⟨(fun f=>by rw[e]at f;exact absurd f d),fun j g=>?_⟩;rw[e]at g;exact h j g
def kB:=@eM.ready
def eM.done{b:Ao}{a:Act}{w:Vz}(d:Region.ready md ops b= [])(h:Q .normal a w):∀c,eM P md ops Q S D c b a w
 |0=>⟨d,h⟩
 |_+1=>⟨fun _=>h,by rw[d];simp⟩
def Mc:=@eM.done
def eM.begin{id:Nat}{a:Act}{w:Vz}(b:P.follows .mixedOrders=true)(h:eM P .any ops Q S D ops.size (Array.replicate ops.size false) a w.drew):(Code.region id ops true).wp P Q a w:=
 yH b (eM.any _ _ _ _ h)
end
end
section
open Go
section
variable {P:Au} {ops:Af} {Q:Ab} {md:Region.Mode} {S T:AB} {D:Vy}
def ip(P:Au)(md:Region.Mode)(ops:Af)(Q:Ab)(S T:AB)(D:Vy):Nat->Array Bool->Act->World->Prop
 |0,listed,a,w=>Region.ready md ops listed= []/\Q .normal a w
 |fuel+1,listed,a,w=>(Region.ready md ops listed= []->Q .normal a w)/\∀i∈ Region.ready md ops listed,wpOp P ops Q i (fun a' w'=>((i ∉ D->jN D listed->S w')/\T w')/\ip P md ops Q S T D fuel (listed.setIfInBounds i true) a' w') a w
theorem ip.any:∀(b:Nat)(c:Ao)(a:Act) (w:Vz),ip P md ops Q S T D b c a w->wpAny P md ops Q b c a w
 |0,_,_,_,h=>h
 |b+1,_,_,_,h=>⟨h.1,fun i d=>rJ (fun e w' f=>ip.any b _ e w' f.2) (h.2 i d)⟩
def ip.first{i:Nat}{u:Oper}{v:Ac}(N:ops[i]?=some u)(r:∀(j:Nat)(o:Oper) A b,ops[j]?=some o->o.op≠.select A b)(X:∀c a w,Q (.panic c) (a.put u.dst v) w->Q (.panic c) a w)(hk:D.all (fun k=>waits md ops k i)=true):
 ∀(f:Nat)(d:Ao)(a:Act) (w:Vz),
  (∀j y,ops[j]?=some y->j≠i->d.getD j true=false->(∀e∈ y.after,Region.binds md e=true->e.on≠i)->u.apart ops y=true)->
  i∈ Region.ready md ops d->YieldsIf P ops S u v a->jN D d->S w->T w->
  ip P md ops Q S T D f (d.setIfInBounds i true) (a.put u.dst v) w->ip P md ops Q S T D (f+1) d a w:=by
 intro f
 induction f with
 |zero=>
  intro d a w _ n L O B R H;refine⟨fun h=>(by rw[h]at n;cases n),fun j M=>?_⟩;by_cases g:j=i
  . subst g;exact L.wpOp N B ⟨⟨fun _ _=>B,R⟩,H⟩
  . have:=jM M g;rw[H.1]at this;cases this
 |succ f Y=>
  intro d a w l n L O B R H;refine⟨fun h=>(by rw[h]at n;cases n),fun j M=>?_⟩;by_cases g:j=i
  . subst g;exact L.wpOp N B ⟨⟨fun _ _=>B,R⟩,H⟩
  .
   have Z:=H.2 j (jM M g);obtain⟨s,y,p,C⟩:=mC.1 M;have t:=FG (j:=j) n C;have E:j ∉ D:=fun e=>G8 (k:=j) (ij.1 hk j e) p t
   have F:=O.set (fun e=>by
    obtain⟨_,aa,G,x⟩:=mC.1 n
    exact G8 (k:=i) (ij.1 hk i e) G (FG (j:=i) n x))
   have h2:=wpOp_putIf p (l j y p g s t) (fun A b=>r i u A b N) (fun A b=>r j y A b p) X L Z;have q:∀m I,ops[m]?=some I->m≠i->(d.setIfInBounds j true).getD m true=false->
    (∀e∈ I.after,Region.binds md e=true->e.on≠i)->u.apart ops I=true:=fun m I hm U J V=>by
    refine l m I hm U ?_ V;by_cases K:j=m
    . subst K;exact s
    . rw[_root_.Go.getD_set_ne true K]at J;exact J
   refine rJ (fun a' w' z=>⟨⟨fun W _=>z.2.1.1 W F,z.2.1.2⟩,Y (d.setIfInBounds j true) a' w' q (jM n (gH g)) z.1 (O.set E) (z.2.1.1 E F) z.2.1.2 ?_⟩) h2;rw[lP _ _ g];exact z.2.2
def ip.D5{i:Nat}{q:Oper}{v:Ac}(K:ops[i]?=some q)(n:∀(j:Nat)(o:Oper) x b,ops[j]?=some o->o.op≠.select x b)(R:∀c a w,Q (.panic c) (a.put q.dst v) w->Q (.panic c) a w)(y:i ∉ D):
 ∀(f:Nat)(d:Ao)(a:Act) (w:Vz),
  (∀j t,ops[j]?=some t->j≠i->d.getD j true=false->(∀e∈ t.after,Region.binds md e=true->e.on≠i)->q.apart ops t=true)->
  i∈ Region.ready md ops d->YieldsIf P ops T q v a->(jN D d->S w)->T w->
  ip P md ops Q S T D f (d.setIfInBounds i true) (a.put q.dst v) w->ip P md ops Q S T D (f+1) d a w:=by
 intro f
 induction f with
 |zero=>
  intro d a w _ r G L z H;refine⟨fun h=>(by rw[h]at r;cases r),fun j I=>?_⟩;by_cases g:j=i
  . subst g;exact G.wpOp K z ⟨⟨fun _=>L,z⟩,H⟩
  . have:=jM I g;rw[H.1]at this;cases this
 |succ f U=>
  intro d a w k r G L z H;refine⟨fun h=>(by rw[h]at r;cases r),fun j I=>?_⟩;by_cases g:j=i
  . subst g;exact G.wpOp K z ⟨⟨fun _=>L,z⟩,H⟩
  .
   have V:=H.2 j (jM I g);obtain⟨p,t,s,A⟩:=mC.1 I;have B:=FG (j:=j) r A;have W:=wpOp_putIf s (k j t s g p B) (fun x b=>n i q x b K) (fun x b=>n j t x b s) R G V;have l:∀m C,ops[m]?=some C->m≠i->(d.setIfInBounds j true).getD m true=false->
    (∀e∈ C.after,Region.binds md e=true->e.on≠i)->q.apart ops C=true:=fun m C X M E N=>by
    refine k m C X M ?_ N;by_cases F:j=m
    . subst F;exact p
    . rw[_root_.Go.getD_set_ne true F]at E;exact E
   refine rJ (fun Y w' u=>⟨⟨?_,u.2.1.2⟩,U (d.setIfInBounds j true) Y w' l (jM r (gH g)) u.1 ?_ u.2.1.2 ?_⟩) W
   . intro O J
     exact u.2.1.1 O (J.set y)
   . intro J
     exact u.2.1.1 J.uV.1 (J.uV.2.set y)
   . rw[lP _ _ g]
     exact u.2.2
def ip.take{i:Nat}{f:Oper}{v:Ac}{e:Nat}{b:Ao}{a:Act}{w:Vz}(g:ops[i]?=some f)(j:Region.noSelect ops=true)(l:Region.free md ops b i=true)(m:(Region.ready md ops b).contains i=true)(hk:D.all (fun k=>waits md ops k i)=true)(n:D.all (fun d=>!(b.getD d true))=true)(o:∀c a w,Q (.panic c) (a.put f.dst v) w->Q (.panic c) a w)(p:YieldsIf P ops S f v a)(q:S w)(r:T w)(h:ip P md ops Q S T D e (b.setIfInBounds i true) (a.put f.dst v) w):ip P md ops Q S T D (e+1) b a w:=
 ip.first g (l8 j) o hk e b a w (qp g l) (sU m) p (NE n) q r h
def ip.zZ{i:Nat}{e:Oper}{v:Ac}{d:Nat}{b:Ao}{a:Act}{w:Vz}(f:ops[i]?=some e)(j:Region.noSelect ops=true)(k:Region.free md ops b i=true)(l:(Region.ready md ops b).contains i=true)(g:D.contains i=false)(m:∀c a w,Q (.panic c) (a.put e.dst v) w->Q (.panic c) a w)(n:YieldsIf P ops T e v a)(o:jN D b->S w)(p:T w)(h:ip P md ops Q S T D d (b.setIfInBounds i true) (a.put e.dst v) w):ip P md ops Q S T D (d+1) b a w:=
 ip.D5 f (l8 j) m (fun q=>by rw[Mj.2 q]at g;cases g) d b a w (qp f k) (sU l) n o p h
def ip.one{i:Nat}{o:Oper}{c:Nat}{b:Ao}{a:Act}{w:Vz}(d:Region.ready md ops b= [i])(g:ops[i]?=some o)(h:∀K':Ar,Shut (∀a w,((i ∉ D->jN D b->S w)/\T w)->ip P md ops Q S T D c (b.setIfInBounds i true) a w->K' a w)->if Region.wanted o (yielded ops a.tmps)=true then Oper.wp P o a w K' Q else K' (a.put o.dst undef) w):ip P md ops Q S T D (c+1) b a w:=by refine⟨(fun e=>by rw[d]at e;cases e),fun j f=>?_⟩;rw[d]at f;obtain rfl:=bE.1 f;exact De g (fun K' k=>h K' (fun a w l hW=>k a w ⟨l,hW⟩))
def Jj:=@ip.one
def ip.done{b:Ao}{a:Act}{w:Vz}(d:Region.ready md ops b= [])(h:Q .normal a w):∀c,ip P md ops Q S T D c b a w
 |0=>⟨d,h⟩
 |_+1=>⟨fun _=>h,by rw[d];simp⟩
def ip.begin{id:Nat}{a:Act}{w:Vz}(b:P.follows .mixedOrders=true)(h:ip P .any ops Q S T D ops.size (Array.replicate ops.size false) a w.drew):(Code.region id ops true).wp P Q a w:=
 yH b (ip.any _ _ _ _ h)
end
end
section
open Go
def lc(is:Vy)(p:Prop):Prop:=p
def lc.of{p:Prop}(is:Vy)(h:lc is p):p:=h
def xG:=@lc.of
def lc.done{p:Prop}(h:p):lc [] p:=h
def qT:=@lc.done
section
variable {P:Au} {ops:Af} {Q:Ab} {md:Region.Mode} {S T:AB} {D is:Vy} {i:Nat} {oi:Oper} {v:Ac} {fuel:Nat} {listed:Ao} {a:Act} {w:Vz}
def dK.BQ{id k:Nat}(b:P.follows .mixedOrders=true)(c:S w.drew)(h:dK P .any ops Q S k ops.size (Array.replicate ops.size false) a w.drew):(Code.region id ops true).wp P Q a w:=dK.begin b h
def eM.BQ{id:Nat}(b:P.follows .mixedOrders=true)(c:S w.drew)(h:eM P .any ops Q S D ops.size (Array.replicate ops.size false) a w.drew):(Code.region id ops true).wp P Q a w:=eM.begin b h
def ip.BQ{id:Nat}(b:P.follows .mixedOrders=true)(c:S w.drew)(d:T w.drew)(h:ip P .any ops Q S T D ops.size (Array.replicate ops.size false) a w.drew):(Code.region id ops true).wp P Q a w:=ip.begin b h
def ip.tp(b:ops[i]?=some oi)(d:Region.noSelect ops=true)(e:Region.free md ops listed i=true)(f:(Region.ready md ops listed).contains i=true)(g:D.contains i=false)(j:∀c a w,Q (.panic c) (a.put oi.dst v) w->Q (.panic c) a w)(l:jN D listed->S w)(m:T w)(n:YieldsIf P ops T oi v a)(h:lc is (ip P md ops Q S T D fuel (listed.setIfInBounds i true) (a.put oi.dst v) w)):lc (i :: is) (ip P md ops Q S T D (fuel+1) listed a w):=
 ip.zZ b d e f g j n l m h
def ip.sp(b:ops[i]?=some oi)(e:Region.noSelect ops=true)(f:Region.free md ops listed i=true)(g:(Region.ready md ops listed).contains i=true)(hk:D.all (fun k=>waits md ops k i)=true)(j:D.all (fun d=>!(listed.getD d true))=true)(l:∀c a w,Q (.panic c) (a.put oi.dst v) w->Q (.panic c) a w)(m:S w)(n:T w)(o:YieldsIf P ops S oi v a)(h:lc is (ip P md ops Q S T D fuel (listed.setIfInBounds i true) (a.put oi.dst v) w)):lc (i :: is) (ip P md ops Q S T D (fuel+1) listed a w):=
 ip.take b e f g hk j l o m n h
def ip.op{o:Oper}(b:Region.ready md ops listed= [i])(c:ops[i]?=some o)(h:∀K':Ar,Shut (∀a w,((i ∉ D->jN D listed->S w)/\T w)->lc is (ip P md ops Q S T D fuel (listed.setIfInBounds i true) a w)->K' a w)->if Region.wanted o (yielded ops a.tmps)=true then Oper.wp P o a w K' Q else K' (a.put o.dst undef) w):lc (i :: is) (ip P md ops Q S T D (fuel+1) listed a w):=
 Jj b c h
def C3:=@ip.op
def eM.pp(b:ops[i]?=some oi)(d:Region.noSelect ops=true)(e:Region.free md ops listed i=true)(f:(Region.ready md ops listed).contains i=true)(g:D.contains i=false)(j:∀c a w,Q (.panic c) (a.put oi.dst v) w->Q (.panic c) a w)(l:jN D listed->S w)(m:YieldsIf P ops (fun _=>True) oi v a)(h:lc is (eM P md ops Q S D fuel (listed.setIfInBounds i true) (a.put oi.dst v) w)):lc (i :: is) (eM P md ops Q S D (fuel+1) listed a w):=
 zV b d e f g j m l h
def eM.sp(b:ops[i]?=some oi)(e:Region.noSelect ops=true)(f:Region.free md ops listed i=true)(g:(Region.ready md ops listed).contains i=true)(hk:D.all (fun k=>waits md ops k i)=true)(j:D.all (fun d=>!(listed.getD d true))=true)(l:∀c a w,Q (.panic c) (a.put oi.dst v) w->Q (.panic c) a w)(m:S w)(n:YieldsIf P ops S oi v a)(h:lc is (eM P md ops Q S D fuel (listed.setIfInBounds i true) (a.put oi.dst v) w)):lc (i :: is) (eM P md ops Q S D (fuel+1) listed a w):=
 zG b e f g hk j l n m h
variable {k:Nat}
def dK.bp(b:ops[i]?=some oi)(d:Region.noSelect ops=true)(e:Region.free md ops listed i=true)(f:(Region.ready md ops listed).contains i=true)(hk:waits md ops k i=true)(g:∀c a w,Q (.panic c) (a.put oi.dst v) w->Q (.panic c) a w)(j:S w)(l:YieldsIf P ops S oi v a)(h:lc is (dK P md ops Q S k fuel (listed.setIfInBounds i true) (a.put oi.dst v) w)):lc (i :: is) (dK P md ops Q S k (fuel+1) listed a w):=
 DN b d e f hk g l j h
def xH:=@dK.bp
def dK.op{o:Oper}(b:Region.ready md ops listed= [i])(c:ops[i]?=some o)(h:∀K':Ar,Shut (∀a w,(i≠k->S w)->lc is (dK P md ops Q S k fuel (listed.setIfInBounds i true) a w)->K' a w)->if Region.wanted o (yielded ops a.tmps)=true then Oper.wp P o a w K' Q else K' (a.put o.dst undef) w):lc (i :: is) (dK P md ops Q S k (fuel+1) listed a w):=
 rh b c h
def zW:=@dK.op
end
end
end Go.Proofs.YtfgclhpgdanmfaaGreatDoor
