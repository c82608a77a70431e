import Derived.Test.YtkkadnoecklepaaGreatDoorG14StillC
namespace Go.Proofs.YtkkadnoecklepaaGreatDoor
open Go.RowKit
open Go.Proofs.Tryz
set_option linter.unusedSimpArgs false
set_option linter.unusedVariables false
set_option maxHeartbeats 8000000
set_option maxRecDepth 1000000
def agnStep(v:Vec)(p:Nat × Rat × Rat):Vec:=upd (upd v (2*p.1) (v (2*p.1) - p.2.1)) (2*p.1+1) (v (2*p.1+1) - p.2.2)
def agn(vs:List (Nat × Rat × Rat)):Vec:=vs.foldl agnStep (fun _=>0)
theorem Qcp{vs:List (Nat × Rat × Rat)}{k:Nat}{p:Nat × Rat × Rat}(h:vs[k]?=some p):agn (vs.take (k+1))=agnStep (agn (vs.take k)) p:=by
 unfold agn;rw[List.take_add_one,h];simp[List.foldl_append]
theorem agn_x{v:Vec}{p:Nat × Rat × Rat}:agnStep v p (2*p.1)=v (2*p.1) - p.2.1:=by
 unfold agnStep;rw[Qat _ _ (by omega),Qcc]
theorem agn_y{v:Vec}{p:Nat × Rat × Rat}:agnStep v p (2*p.1+1)=v (2*p.1+1) - p.2.2:=Qcc _ _ _
theorem Qc8{v:Vec}{p:Nat × Rat × Rat}{i:Nat}(a:i≠2*p.1)(b:i≠2*p.1+1):agnStep v p i=v i:=by
 unfold agnStep;rw[Qat _ _ b,Qat _ _ a]
structure LoadV (n:Nat) (l:L3) (p:Nat × Rat × Rat):Prop where
 j:l.j=(p.1:Nat)
 lt:p.1<n
 x:QOf l.x.data.toList p.2.1
 y:QOf l.y.data.toList p.2.2
 sx:l.x.size<=1048576
 sy:l.y.size<=1048576
theorem Qg1{s:Vs}{q:Rat}{w:Vz}(a:Glob w)(b:QOf s.data.toList q)(g:s.size<=1048576):Calls prog 63 #[.string s] w (FNew w q):=by
 obtain⟨m,c⟩:=a.most;refine(Qj9 s m w c (by omega)).mono ?_;rintro e h ⟨i,d,f⟩;rw[b.inj d];exact f
theorem Qg2{w:Vz}{g K i:Nat}{us:List FE}{x y z:Value}{q:Rat}(h:QBlk w g us)(a:i<us.length)(b:FracV w (.agg #[x,y,z]) q)(c:Fits q K)(d:0<K):QBlk (((w.setCell ⟨g,i*3,none⟩ x).setCell ⟨g,i*3+1,none⟩ y).setCell ⟨g,i*3+2,none⟩ z) g (us.set i ⟨x,y,z,q,K⟩):=
 h.set (k:=i) (e:=⟨x,y,z,q,K⟩) a ⟨b,c,d⟩
theorem Qvk(a1 a2 a3 al:Vx)(c1 c2 c3 cl nj nb nh K:Nat)(A:List L3)(vs:List (Nat × Rat × Rat))(w:Vz)(hg:Glob w)(hl:ARow L3.cells w al cl A)(bx:A.length<=1000)(hn:nj<=10)(aq:vs.length=A.length)(ar:∀(i:Nat) (l:L3) (p:Nat × Rat × Rat),A[i]?=some l->vs[i]?=some p->LoadV nj l p)
 (ag:0<K) (hK:K+4194305<68719476000) (ab:∀k i,Fits (agn (vs.take k) i) K):
 Calls prog 52 #[.agg #[.slice a1 nj c1,.slice a2 nb c2,.slice a3 nh c3],.slice al A.length cl] w fun e w'=>(∃(g N:Nat) (us:List FE),N=2*nj/\e=.returned (.slice (some ⟨g,0,none⟩) N N)/\QBlk w' g us/\us.length=N/\∀(i:Nat) (t:FE),us[i]?=some t->t.q=agn vs i/\t.k<=K)/\Below w.heap.size w w':=by
 obtain⟨HG,ah,ai,bi,HF⟩:=Id hg hl aq ar ab;obtain⟨N,hN⟩:=nm (2*nj);have au:=fun w=>Qa4 N (by omega) w
 obtain⟨MC,aj⟩:=nm (((List.replicate N FE.zero).flatMap FE.cells).toArray);rw[aj] at au;have bj:=Hi aj.symm;have av:2*(nj:Int)=(N:Int):=by omega
 have aw:=Hi (fun u=>Qcm a1 a2 a3 c1 c2 c3 nj nb nh u hn);simp only[av] at aw;have HN:=Hi hN;clear hN av;clear hg hl aq ar ab aj;go_enter func52,ntmps52;go_wp2_with fail;go_fit (aw.o _);rintro e w1 ⟨rfl,ax⟩;have ak:O (Bl w w1):=Hi ((bR.alloc lZ _).trans (ax.mono (by simp)));clear ax;obtain⟨g,hg⟩:=nm w1.heap.size;obtain⟨V,hV⟩:=nm (w1.alloc (.cells MC 107));have r:w.heap.size<=g:=by rw[<-hg];exact ak.o.size
 have bk:O (Bl w V):=Hi (by rw[<-hV];exact ak.o.alloc ak.o.size _);have bl:O (QBlk V g (List.replicate N FE.zero)):=Hi (by rw[<-hV,<-hg];exact QBlk.new w1 N MC bj.o);have HV:=Hi hV;clear hV;go_wp2_with fail;rw[HV.o]
 try rw[hg]
 clear au;go_loopw [14] (fun i wr=>∃(k:Nat) (us:List FE),k<=A.length/\i=.int .i64 k/\us.length=N/\QBlk wr g us/\(∀(i:Nat) (t:FE),us[i]?=some t->t.q=agn (vs.take k) i/\t.k<=K)/\Below w.heap.size w wr) (fun i _=>A.length - (intOf i).toNat)
 case atStart=>
  refine⟨0,_,Nat.zero_le _,rfl,by simp,bl.o,fun i t f=>?_,bk.o⟩;obtain⟨_,rfl⟩:=List.mem_replicate.1 (mO f);exact⟨rfl,ag⟩
 case round=>
  obtain⟨k,us,hk,rfl,ay,az,a0,hb⟩:=hrel;obtain⟨HU,HQ,am,HB⟩:=Ic ay az a0 hb;clear ay az a0 hb;by_cases bm:k<A.length
  .
   obtain⟨l,hl⟩:∃l,A[k]?=some l:=⟨A[k],gE bm⟩;obtain⟨p,hp⟩:∃p,vs[k]?=some p:=⟨vs[k]'(by have:=ai.o;omega),gE (by have:=ai.o;omega)⟩;have M:=bi.o k l p hl hp;obtain⟨lb,lo,rfl,a4,d0,d1,d2⟩:=(ah.o.below HB.o).load hl;obtain⟨bz,b0,e',b1,_⟩:=ah.o.load hl;cases e';rw[M.j] at d0;have bn:lb≠g:=by omega
   have bw:=bn.symm;obtain⟨X,hX⟩:=nm (2*p.1);obtain⟨Y,hY⟩:=nm (2*p.1+1);have a6:2*(p.1:Int)=(X:Int):=by omega
   have a7:2*(p.1:Int)+1=(Y:Int):=by omega
   have a8:=M.lt;have b2:X<N:=by have:=HN.o;omega
   have b3:Y<N:=by have:=HN.o;omega
   obtain⟨a9,ba⟩:=Ia (fun u=>Qcn p.1 u (by omega)) (fun u=>Qco p.1 u (by omega));simp only[a7] at ba;simp only[a6] at a9;have bb:X≠Y:=by omega
   obtain⟨HX,HY,HP,c⟩:=Ic hX hY hp M;have q1:((k:Int)<(A.length:Int)):=by omega
   have q2:((X:Int)<(N:Int)):=by omega
   have q3:((Y:Int)<(N:Int)):=by omega
   have bo:=Hi hl;clear hl hp M hX hY a6 a7 a8;go_wp2_with fail;go_region_held3 (fun v=>v.cell? ⟨lb,lo+k*3,none⟩=some (.int .i64 (p.1:Nat))) ((first|(simp [*];done)|go_keep)) (first
    |(
     go_at_call 108;apply cM;apply a9.o
     rintro e2 w2 ⟨rfl,rfl⟩)
    |(
     go_at_call 109;apply cM;apply ba.o
     rintro e2 w2 ⟨rfl,rfl⟩)
    |fail)
   obtain⟨z0,P⟩:∃z0,us[X]?=some z0:=⟨us[X]'(by have:=HU.o;omega),gE (by have:=HU.o;omega)⟩;obtain⟨HZ,an⟩:=Ia (HQ.o.row.get P) (am.o _ _ P);obtain⟨gy,oy,ao,_,t0,t1,t2⟩:=HQ.o.row.at P;cases ao;simp only[Nat.zero_add] at t0 t1 t2;obtain⟨B,C,D,bc⟩:=Ic t0 t1 t2 d1;have bd:=HQ.o.blk.lt;obtain⟨ap,E⟩:=Ia (fun u (hu:Bl wr u)=>Qg1 ((HG.o.below HB.o).below hu) c.o.x c.o.sx) (c.o.x.fits (n:=1048576) (by have:=c.o.sx;simpa using this));have bp:=an.o.2;clear P;go_wp2_with fail
   first|(go_region_with (first
    |(
     go_at_call 63;apply cM;apply ap.o;(focus(repeat(first|exact Below.refl _ _|apply Qck|apply Qcl)));rintro e2 w2 ⟨⟨v2,rfl,hv2⟩,b⟩;obtain⟨n2,F,l2,G,m2,o2,p2,rfl,hv2⟩:=hv2;(first
       |have a:O (Bl wr w2):=Hi b
       |have a:O (Bl wr w2):=Hi (bR.drew.trans b)
       |have a:O (Bl wr w2):=Hi (bR.drew.drew.trans b))
     have s:O (FracV w2 (.agg #[.bool n2,.slice F l2 G,.slice m2 o2 p2]) p.2.1):=Hi ⟨n2,F,l2,G,m2,o2,p2,rfl,hv2⟩;clear hv2 b t0 t1 t2 d1;obtain⟨t0,t1,t2⟩:=Jb a.o bd B.o C.o D.o;have d1:=ce a.o a4 bc.o
     skip)
    |(
     go_at_call 57;apply cM;(first
       |exact Qa7 (HZ.o.1.below a.o) s.o HZ.o.2.1 E.o (by omega)
       |exact Qa7 (HZ.o.1.below a.o.drew) (s.o.below bR.drew) HZ.o.2.1 E.o (by omega))
     rintro e3 w3 ⟨⟨v3,rfl,hv3⟩,d⟩;obtain⟨n3,Q,l3,R,m3,o3,p3,rfl,hv3⟩:=hv3;(first
       |have z:O (Bl wr w3):=Hi (a.o.trans (d.mono a.o.size))
       |have z:O (Bl wr w3):=Hi (a.o.trans (((bR.drew).trans d).mono a.o.size)))
     have be:O (FracV w3 (.agg #[.bool n3,.slice Q l3 R,.slice m3 o3 p3]) (z0.q - p.2.1)):=Hi ⟨n3,Q,l3,R,m3,o3,p3,rfl,hv3⟩;have H:=Hi (HQ.o.below z.o);clear hv3 d t0 t1 t2 d1;obtain⟨t0,t1,t2⟩:=Jb z.o bd B.o C.o D.o;have d1:=ce z.o a4 bc.o;have f0:=H.o.blk.free (X*3);have f1:=H.o.blk.free (X*3+1);have f2:=H.o.blk.free (X*3+2)
     skip)
    |fail))|fail
   all_goals
    have bf:Fits (z0.q - p.2.1) K:=by
     have h1:=HF.o (k+1) X;rw[Qcp HP.o,<-HX.o,agn_x,HX.o,<-an.o.1] at h1;exact h1
    obtain⟨us1,h⟩:=nm (us.set X ⟨.bool n3,.slice Q l3 R,.slice m3 o3 p3,z0.q - p.2.1,K⟩);obtain⟨m,S⟩:=nm (((w3.setCell ⟨g,X*3,none⟩ (.bool n3)).setCell ⟨g,X*3+1,none⟩ (.slice Q l3 R)).setCell ⟨g,X*3+2,none⟩ (.slice m3 o3 p3));have T:O (QBlk m g us1):=Hi (by rw[<-S,<-h];exact Qg2 H.o (by have:=HU.o;omega) be.o bf ag);have I:O (us1.length=N):=Hi (by rw[<-h,List.length_set];exact HU.o);have ad:O (∀(i:Nat) (t:FE),us1[i]?=some t->t.q=(if i=X then z0.q - p.2.1 else agn (vs.take k) i)/\t.k<=K):=Hi (fun i t f=>by
     rw[<-h] at f;by_cases e:i=X
     .
      subst e;rw[List.getElem?_set_self (by have:=HU.o;omega)] at f;obtain rfl:=Option.some.inj f;rw[if_pos rfl];exact⟨rfl,Nat.le_refl _⟩
     .
      rw[List.getElem?_set_ne (Ne.symm e)] at f;rw[if_neg e]
      exact am.o i t f)
    have U:O (Bl w m):=Hi (by rw[<-S];exact(((HB.o.trans (z.o.mono HB.o.size)).setCell (p:=⟨g,X*3,none⟩) r _).setCell (p:=⟨g,X*3+1,none⟩) r _).setCell (p:=⟨g,X*3+2,none⟩) r _);obtain⟨b4,b5,bq,ae,d0,d1,d2⟩:=(ah.o.below U.o).load bo.o;cases bq;obtain⟨br,bs⟩:=Ia an.o.1 S;clear bf h S t0 t1 t2 f0 f1 f2 d0 d1 a s H z be;go_wp2_with fail;rw[bs.o];obtain⟨z1,W⟩:∃z1,us1[Y]?=some z1:=⟨us1[Y]'(by have:=I.o;omega),gE (by have:=I.o;omega)⟩;obtain⟨Z,J⟩:=Ia (T.o.row.get W) (ad.o _ _ W);obtain⟨gy,oy,ao,_,t0,t1,t2⟩:=T.o.row.at W;cases ao;simp only[Nat.zero_add] at t0 t1 t2;obtain⟨B,C,D,bg⟩:=Ic t0 t1 t2 d2;have af:=T.o.blk.lt
    obtain⟨ap,E⟩:=Ia (fun u (hu:Bl m u)=>Qg1 ((HG.o.below U.o).below hu) c.o.y c.o.sy) (c.o.y.fits (n:=1048576) (by have:=c.o.sy;simpa using this));have bp:=J.o.2;clear W
    first|(go_region_with (first
     |(
      go_at_call 63;apply cM;apply ap.o;(focus(repeat(first|exact Below.refl _ _|apply Qck|apply Qcl)));rintro e2 w4 ⟨⟨v2,rfl,hv2⟩,b⟩;obtain⟨n2,F,l2,G,m2,o2,p2,rfl,hv2⟩:=hv2;(first
        |have a:O (Bl m w4):=Hi b
        |have a:O (Bl m w4):=Hi (bR.drew.trans b)
        |have a:O (Bl m w4):=Hi (bR.drew.drew.trans b))
      have s:O (FracV w4 (.agg #[.bool n2,.slice F l2 G,.slice m2 o2 p2]) p.2.2):=Hi ⟨n2,F,l2,G,m2,o2,p2,rfl,hv2⟩;clear hv2 b t0 t1 t2 d2;obtain⟨t0,t1,t2⟩:=Jb a.o af B.o C.o D.o;have d2:=ce a.o ae bg.o
      skip)
     |(
      go_at_call 57;apply cM;(first
        |exact Qa7 (Z.o.1.below a.o) s.o Z.o.2.1 E.o (by omega)
        |exact Qa7 (Z.o.1.below a.o.drew) (s.o.below bR.drew) Z.o.2.1 E.o (by omega))
      rintro e3 w5 ⟨⟨v3,rfl,hv3⟩,d⟩;obtain⟨n5,a5,l5,c5,m5,o5,p5,rfl,hv3⟩:=hv3;(first
        |have L:O (Bl m w5):=Hi (a.o.trans (d.mono a.o.size))
        |have L:O (Bl m w5):=Hi (a.o.trans (((bR.drew).trans d).mono a.o.size)))
      have bt:O (FracV w5 (.agg #[.bool n5,.slice a5 l5 c5,.slice m5 o5 p5]) (z1.q - p.2.2)):=Hi ⟨n5,a5,l5,c5,m5,o5,p5,rfl,hv3⟩;have aa:=Hi (T.o.below L.o);clear hv3 d t0 t1 t2 d2;obtain⟨t0,t1,t2⟩:=Jb L.o af B.o C.o D.o;have d2:=ce L.o ae bg.o;have f0:=aa.o.blk.free (Y*3);have f1:=aa.o.blk.free (Y*3+1);have f2:=aa.o.blk.free (Y*3+2)
      skip)
     |fail))|fail
    all_goals
     have bh:Fits (z1.q - p.2.2) K:=by
      have h1:=HF.o (k+1) Y;have h2:=J.o.1;rw[if_neg (Ne.symm bb)] at h2;rw[Qcp HP.o,<-HY.o,agn_y,HY.o,<-h2] at h1;exact h1
     have bu:=Hi bh;clear bh t0 t1 t2 f0 f1 f2 d2;go_wp2_with fail;refine⟨⟨k+1,_,by omega,by go_num,by rw[List.length_set];exact I.o,Qg2 aa.o (by have:=I.o;omega) bt.o bu.o ag,fun i t f=>?_,(((U.o.trans (L.o.mono U.o.size)).setCell (p:=⟨g,Y*3,none⟩) r _).setCell (p:=⟨g,Y*3+1,none⟩) r _).setCell (p:=⟨g,Y*3+2,none⟩) r _⟩,?_⟩
     .
      rw[Qcp HP.o];by_cases e:i=Y
      .
       subst e;rw[List.getElem?_set_self (by have:=I.o;omega)] at f;obtain rfl:=Option.some.inj f;have h2:=J.o.1;rw[if_neg (Ne.symm bb)] at h2;refine⟨?_,Nat.le_refl _⟩;rw[<-HY.o,agn_y,HY.o,<-h2]
      .
       rw[List.getElem?_set_ne (Ne.symm e)] at f;obtain⟨h3,h4⟩:=ad.o i t f;refine⟨?_,h4⟩;by_cases e2:i=X
       .
        subst e2;rw[if_pos rfl] at h3;rw[h3,<-HX.o,agn_x,HX.o,br.o]
       . rw[if_neg e2] at h3
         rw[h3,Qc8 (by rw[HX.o];exact e2) (by rw[HY.o];exact e)]
     . simp[intOf]
       omega
  .
   have bv:k=A.length:=by omega
   subst bv;go_wp2;go_ret;refine⟨⟨g,N,us,HN.o.symm,rfl,HQ.o,HU.o,fun i t f=>?_⟩,HB.o⟩;have:=am.o i t f;rw[List.take_of_length_le (by have:=ai.o;omega)] at this;exact this
section
open Go
section
variable {P:Program} {ops:Array Oper} {Q:Exit->Act->World->Prop} {md:Region.Mode} {S:World->Prop} {D:Vy}
def NoneOf(D:Vy)(listed:Array Bool):Prop:=∀d∈ D,listed.getD d true=false
theorem NoneOf.set{a:Array Bool}{j:Nat}(h:NoneOf D a)(f:j ∉ D):NoneOf D (a.setIfInBounds j true):=fun d c=>by
 have b:j≠d:=fun e=>f (e ▸ c)
 rw[_root_.Go.getD_set_ne true b];exact h d c
theorem NoneOf.back{a:Array Bool}{j:Nat}(h:NoneOf D (a.setIfInBounds j true)):j ∉ D/\NoneOf D a:=by
 have f:j ∉ D:=fun b=>by
  have:=h j b;simp at this
 refine⟨f,fun d b=>?_⟩;have c:j≠d:=fun e=>f (e ▸ b)
 have:=h d b;rw[_root_.Go.getD_set_ne true c] at this;exact this
def AnyDs(P:Program)(md:Region.Mode)(ops:Array Oper)(Q:Exit->Act->World->Prop)(S:World->Prop)(D:Vy):Nat->Array Bool->Act->World->Prop
 |0,listed,a,w=>Region.ready md ops listed= []/\Q .normal a w
 |fuel+1,listed,a,w=>(Region.ready md ops listed= []->Q .normal a w)/\∀i∈ Region.ready md ops listed,wpOp P ops Q i (fun a' w'=>(i ∉ D->NoneOf D listed->S w')/\AnyDs P md ops Q S D fuel (listed.setIfInBounds i true) a' w') a w
theorem AnyDs.any:∀(b:Nat) (c:Array Bool) (a:Act) (w:Vz),AnyDs P md ops Q S D b c a w->wpAny P md ops Q b c a w
 |0,_,_,_,h=>h
 |b+1,_,_,_,h=>⟨h.1,fun i d=>wpOp_mono (fun e f g=>AnyDs.any b _ e f g.2) (h.2 i d)⟩
theorem Qge{i j:Nat}{a:Array Bool}{g:Oper}(k:i∈ Region.ready md ops a)(b:∀e∈ g.after,Region.binds md e=true->a.getD e.on false=true):∀e∈ g.after,Region.binds md e=true->e.on≠i:=fun e l m d=>by
 have c:=b e l m;have h:=(mem_ready.1 k).1;rw[d] at c;rcases Nat.lt_or_ge i a.size with f|f
 . simp[f] at h c;rw[h] at c;cases c
 . simp[Array.getElem?_eq_none f] at c
theorem AnyDs.first{i:Nat}{u:Oper}{v:Value}(N:ops[i]?=some u)(r:∀(j:Nat) (o:Oper) z b,ops[j]?=some o->o.op≠.select z b)
 (V:∀c a w,Q (.panic c) (a.put u.dst v) w->Q (.panic c) a w) (hk:D.all (fun k=>waits md ops k i)=true):
 ∀(f:Nat) (d:Array Bool) (a:Act) (w:Vz),
  (∀j y,ops[j]?=some y->j≠i->d.getD j true=false->(∀e∈ y.after,Region.binds md e=true->e.on≠i)->u.apart ops y=true)->
  i∈ Region.ready md ops d->YieldsIf P ops S u v a->NoneOf D d->S w->
  AnyDs P md ops Q S D f (d.setIfInBounds i true) (a.put u.dst v) w->AnyDs P md ops Q S D (f+1) d a w:=by
 intro f
 induction f with
 |zero=>
  intro d a w _ n K O A H;refine⟨fun h=>(by rw[h] at n;cases n),fun j L=>?_⟩;by_cases g:j=i
  . subst g;exact K.wpOp N A ⟨fun _ _=>A,H⟩
  .
   have:=ready_mono L g;rw[H.1] at this;cases this
 |succ f W=>
  intro d a w l n K O A H;refine⟨fun h=>(by rw[h] at n;cases n),fun j L=>?_⟩;by_cases g:j=i
  . subst g;exact K.wpOp N A ⟨fun _ _=>A,H⟩
  .
   have X:=H.2 j (ready_mono L g);obtain⟨s,y,p,B⟩:=mem_ready.1 L;have t:=Qge (j:=j) n B;have C:j ∉ D:=fun e=>Qgd (k:=j) (List.all_eq_true.1 hk j e) p t
   have E:NoneOf D (d.setIfInBounds i true):=O.set (fun e=>by
    obtain⟨_,Y,F,x⟩:=mem_ready.1 n
    exact Qgd (k:=i) (List.all_eq_true.1 hk i e) F (Qge (j:=i) n x))
   have Z:=wpOp_putIf p (l j y p g s t) (fun z b=>r i u z b N) (fun z b=>r j y z b p) V K X;have q:∀m G,ops[m]?=some G->m≠i->(d.setIfInBounds j true).getD m true=false->
    (∀e∈ G.after,Region.binds md e=true->e.on≠i)->u.apart ops G=true:=fun m G hm R I T=>by
    refine l m G hm R ?_ T;by_cases J:j=m
    . subst J;exact s
    . rw[_root_.Go.getD_set_ne true J] at I;exact I
   refine wpOp_mono (fun a' w' M=>⟨fun U _=>M.2.1 U E,W (d.setIfInBounds j true) a' w' q (ready_mono n (Ne.symm g)) M.1 (O.set C) (M.2.1 C E) ?_⟩) Z;rw[Array.setIfInBounds_comm _ _ g];exact M.2.2
theorem AnyDs.firstP{i:Nat}{q:Oper}{v:Value}(J:ops[i]?=some q)(n:∀(j:Nat) (o:Oper) u b,ops[j]?=some o->o.op≠.select u b)
 (O:∀c a w,Q (.panic c) (a.put q.dst v) w->Q (.panic c) a w) (x:i ∉ D):
 ∀(f:Nat) (d:Array Bool) (a:Act) (w:Vz),
  (∀j t,ops[j]?=some t->j≠i->d.getD j true=false->(∀e∈ t.after,Region.binds md e=true->e.on≠i)->q.apart ops t=true)->
  i∈ Region.ready md ops d->YieldsIf P ops (fun _=>True) q v a->(NoneOf D d->S w)->
  AnyDs P md ops Q S D f (d.setIfInBounds i true) (a.put q.dst v) w->AnyDs P md ops Q S D (f+1) d a w:=by
 intro f
 induction f with
 |zero=>
  intro d a w _ r E K H;refine⟨fun h=>(by rw[h] at r;cases r),fun j F=>?_⟩;by_cases g:j=i
  . subst g;exact E.wpOp J trivial ⟨fun _=>K,H⟩
  .
   have:=ready_mono F g;rw[H.1] at this;cases this
 |succ f R=>
  intro d a w k r E K H;refine⟨fun h=>(by rw[h] at r;cases r),fun j F=>?_⟩;by_cases g:j=i
  . subst g;exact E.wpOp J trivial ⟨fun _=>K,H⟩
  .
   have T:=H.2 j (ready_mono F g);obtain⟨p,t,s,y⟩:=mem_ready.1 F;have z:=Qge (j:=j) r y;have U:=wpOp_putIf s (k j t s g p z) (fun u b=>n i q u b J) (fun u b=>n j t u b s) O E T;have l:∀m A,ops[m]?=some A->m≠i->(d.setIfInBounds j true).getD m true=false->
    (∀e∈ A.after,Region.binds md e=true->e.on≠i)->q.apart ops A=true:=fun m A V L B M=>by
    refine k m A V L ?_ M;by_cases C:j=m
    . subst C;exact p
    . rw[_root_.Go.getD_set_ne true C] at B;exact B
   refine wpOp_mono (fun W X G=>⟨?_,R (d.setIfInBounds j true) W X l (ready_mono r (Ne.symm g)) G.1 ?_ ?_⟩) U
   . intro N I
     exact G.2.1 N (I.set x)
   . intro I
     exact G.2.1 I.back.1 (I.back.2.set x)
   . rw[Array.setIfInBounds_comm _ _ g]
     exact G.2.2
theorem Qsh{a:Array Bool}(h:D.all (fun d=>!(a.getD d true))=true):NoneOf D a:=fun d b=>by
 have:=List.all_eq_true.1 h d b
 simpa using this
theorem Qgf{a:Array Bool}{d:Nat}(b:D.contains d=true)(h:a.getD d true=true):¬NoneOf D a:=fun c=>by
 have:=c d (by simpa using b);rw[h] at this;cases this
theorem AnyDs.take{i:Nat}{f:Oper}{v:Value}{e:Nat}{b:Array Bool}{a:Act}{w:Vz}(g:ops[i]?=some f)
 (j:Region.noSelect ops=true) (l:Region.free md ops b i=true) (m:(Region.ready md ops b).contains i=true) (hk:D.all (fun k=>waits md ops k i)=true) (n:D.all (fun d=>!(b.getD d true))=true)
 (o:∀c a w,Q (.panic c) (a.put f.dst v) w->Q (.panic c) a w) (p:YieldsIf P ops S f v a) (q:S w)
 (h:AnyDs P md ops Q S D e (b.setIfInBounds i true) (a.put f.dst v) w):AnyDs P md ops Q S D (e+1) b a w:=
 AnyDs.first g (Region.noSelect_spec j) o hk e b a w (Region.free_spec g l) (by simpa using m) p (Qsh n) q h
theorem AnyDs.takeP{i:Nat}{e:Oper}{v:Value}{d:Nat}{b:Array Bool}{a:Act}{w:Vz}(f:ops[i]?=some e)
 (j:Region.noSelect ops=true) (k:Region.free md ops b i=true) (l:(Region.ready md ops b).contains i=true) (g:D.contains i=false)
 (m:∀c a w,Q (.panic c) (a.put e.dst v) w->Q (.panic c) a w) (n:YieldsIf P ops (fun _=>True) e v a) (o:NoneOf D b->S w)
 (h:AnyDs P md ops Q S D d (b.setIfInBounds i true) (a.put e.dst v) w):AnyDs P md ops Q S D (d+1) b a w:=
 AnyDs.firstP f (Region.noSelect_spec j) m (fun p=>by rw[List.contains_iff_mem.2 p] at g;cases g) d b a w (Region.free_spec f k) (by simpa using l) n o h
def AllDs(P:Program)(md:Region.Mode)(ops:Array Oper)(Q:Exit->Act->World->Prop)(S:World->Prop)(D:Vy)(fuel:Nat)(listed:Array Bool)(a:Act)(w:Vz)(rs:Vy):Prop:=
 ∀i∈ rs,wpOp P ops Q i (fun a' w'=>(i ∉ D->NoneOf D listed->S w')/\AnyDs P md ops Q S D fuel (listed.setIfInBounds i true) a' w') a w
theorem AllDs.nil{c:Nat}{b:Array Bool}{a:Act}{w:Vz}:AllDs P md ops Q S D c b a w []:=fun _ h=>by cases h
theorem AllDs.cons{c:Nat}{b:Array Bool}{a:Act}{w:Vz}{i:Nat}{o:Oper}{rs:Vy}(e:ops[i]?=some o)
 (h:∀K':Act->World->Prop,Shut (∀a w,(i ∉ D->NoneOf D b->S w)->AnyDs P md ops Q S D c (b.setIfInBounds i true) a w->K' a w)->if Region.wanted o (yielded ops a.tmps)=true then Oper.wp P o a w K' Q else K' (a.put o.dst undef) w)
 (f:AllDs P md ops Q S D c b a w rs):AllDs P md ops Q S D c b a w (i :: rs):=fun j d=>by
 rcases List.mem_cons.1 d with rfl|d
 . exact wpOp_step e (fun K' g=>h K' (fun a w k hW=>g a w ⟨k,hW⟩))
 . exact f j d
theorem AnyDs.ready{rs:Vy}{c:Nat}{b:Array Bool}{a:Act}{w:Vz}(e:Region.ready md ops b=rs)(d:rs≠ [])
 (h:AllDs P md ops Q S D c b a w rs):AnyDs P md ops Q S D (c+1) b a w:=by
 refine⟨(fun f=>by rw[e] at f;exact absurd f d),fun j g=>?_⟩;rw[e] at g;exact h j g
theorem AnyDs.done{b:Array Bool}{a:Act}{w:Vz}(d:Region.ready md ops b= [])(h:Q .normal a w):∀c,AnyDs P md ops Q S D c b a w
 |0=>⟨d,h⟩
 |_+1=>⟨fun _=>h,by rw[d];simp⟩
theorem AnyDs.begin{id:Nat}{a:Act}{w:Vz}(b:P.follows .mixedOrders=true)
 (h:AnyDs P .any ops Q S D ops.size (Array.replicate ops.size false) a w.drew):(Code.region id ops true).wp P Q a w:=
 wp_region_any b (AnyDs.any _ _ _ _ h)
end
end
section
open Go
def Plan(is:Vy)(p:Prop):Prop:=p
theorem Plan.of{p:Prop}(is:Vy)(h:Plan is p):p:=h
theorem Plan.done{p:Prop}(h:p):Plan [] p:=h
section
variable {P:Program} {ops:Array Oper} {Q:Exit->Act->World->Prop} {md:Region.Mode} {S T:World->Prop} {D is:Vy} {i:Nat} {oi:Oper} {v:Value} {fuel:Nat} {listed:Array Bool} {a:Act} {w:Vz}
variable {k:Nat}
theorem AnyBut.bp(b:ops[i]?=some oi)(d:Region.noSelect ops=true)(e:Region.free md ops listed i=true)(f:(Region.ready md ops listed).contains i=true)(hk:waits md ops k i=true)
 (g:∀c a w,Q (.panic c) (a.put oi.dst v) w->Q (.panic c) a w) (j:S w) (l:YieldsIf P ops S oi v a)
 (h:Plan is (AnyBut P md ops Q S k fuel (listed.setIfInBounds i true) (a.put oi.dst v) w)):Plan (i :: is) (AnyBut P md ops Q S k (fuel+1) listed a w):=
 AnyBut.take b d e f hk g l j h
end
end
theorem Tryz.stairsInfo:(prog.info? 195).map (·.size)=some 3:=by kernel_rfl
theorem okNil{w:Vz}{W K:Nat}:Oks w W K []:=fun _ h=>by cases h
def Box2(b:Nat)(sv hv:Value)(v:Vz):Prop:=v.cell? ⟨b,1,none⟩=some sv/\v.cell? ⟨b,2,none⟩=some hv
theorem SW.box2{w u:Vz}{W K wide:Nat}{L S X:List MR}{hs:Vy}{lv sv hv b1 b2:Value}(h:SW w u W K wide L S X hs lv sv hv b1 b2):Box2 (w.heap.size+1) b1 b2 u:=⟨h.box.cell 1,h.box.cell 2⟩
theorem Qbz(u:Vz)(v:Value)(t:Vr):(u.alloc (.cells #[v] t)).cell? ⟨u.heap.size,0,none⟩=some v:=(SB.new u t #[v]).cell 0
section
variable {w u:Vz} {W K wide:Nat} {L S X:List MR} {hs:Vy} {lv sv hv b1 b2:Value}
theorem SW.ord1(h:SW w u W K wide L S X hs lv sv hv b1 b2){r:MR}(j:r∈ X){g:Vx}(i:r.a=g)(k:Nat)(n:S.length<=1000)(o:hs.length<=1000):
 ∃b e d f,(Builtin.append_ #[148,148] 148 #[sv,.slice (some ⟨u.heap.size,0,none⟩) 1 1]).run prog (u.alloc (.cells #[.slice g W r.cap] 98))=.ok b e/\
  (Builtin.append_ #[155,155] 155 #[hv,.slice (some ⟨e.heap.size,0,none⟩) 1 1]).run prog (e.alloc (.cells #[.int .i64 (k:Nat)] 3))=.ok d f/\SW w e W K wide L (S++ [r]) X hs lv b hv b1 b2/\SW w f W K wide L (S++ [r]) X (hs++ [k]) lv b d b1 b2:=by
 have l:=h.alloc (.cells #[.slice g W r.cap] 98);obtain⟨b,e,p,m,_,_⟩:=l.app1 (s:=r) (nb:=u.heap.size) (c:=1) (by rw[Qbz,MR.val,(h.okX r j).len,i]) (l.okX r j) n 148;obtain⟨d,f,q,t⟩:=(m.alloc (.cells #[.int .i64 (k:Nat)] 3)).app2 (k:=k) (nb:=e.heap.size) (c:=1) (Qbz _ _ _) o 155;exact⟨b,e,d,f,p,q,m,t⟩
theorem SW.ord2(h:SW w u W K wide L S X hs lv sv hv b1 b2){r:MR}(m:r∈ X){e:Vx}(l:r.a=e)(k:Nat)(q:S.length<=1000)(t:hs.length<=1000):
 ∃b f d j,(Builtin.append_ #[148,148] 148 #[sv,.slice (some ⟨u.heap.size,0,none⟩) 1 1]).run prog ((u.alloc (.cells #[.slice e W r.cap] 98)).alloc (.cells #[.int .i64 (k:Nat)] 3))=.ok b f/\
  (Builtin.append_ #[155,155] 155 #[hv,.slice (some ⟨u.heap.size+1,0,none⟩) 1 1]).run prog f=.ok d j/\SW w f W K wide L (S++ [r]) X hs lv b hv b1 b2/\SW w j W K wide L (S++ [r]) X (hs++ [k]) lv b d b1 b2:=by
 have v:=h.alloc (.cells #[.slice e W r.cap] 98);have n:=v.alloc (.cells #[.int .i64 (k:Nat)] 3);have x:((u.alloc (.cells #[.slice e W r.cap] 98)).alloc (.cells #[.int .i64 (k:Nat)] 3)).cell? ⟨u.heap.size,0,none⟩=some (.slice e W r.cap):=
  (((Below.refl _ (u.alloc (.cells #[.slice e W r.cap] 98))).alloc lZ _).cell (p:=⟨u.heap.size,0,none⟩) (by rw[World.size_alloc];exact Nat.lt_succ_self _)).trans (Qbz _ _ _)
 obtain⟨b,f,y,o,_,g⟩:=n.app1 (s:=r) (nb:=u.heap.size) (c:=1) (by rw[x,MR.val,(h.okX r m).len,l]) (n.okX r m) q 148;have i:=g _ _ _ (Qbz (u.alloc (.cells #[.slice e W r.cap] 98)) (.int .i64 (k:Nat)) 3);rw[World.size_alloc] at i;obtain⟨d,j,z,A⟩:=o.app2 (k:=k) (nb:=u.heap.size+1) (c:=1) i t 155;exact⟨b,f,d,j,y,z,o,A⟩
theorem SW.ord3(h:SW w u W K wide L S X hs lv sv hv b1 b2){r:MR}(m:r∈ X){g:Vx}(j:r.a=g)(k:Nat)(t:S.length<=1000)(v:hs.length<=1000):
 ∃b e d i,(Builtin.append_ #[148,148] 148 #[sv,.slice (some ⟨u.heap.size+1,0,none⟩) 1 1]).run prog ((u.alloc (.cells #[.int .i64 (k:Nat)] 3)).alloc (.cells #[.slice g W r.cap] 98))=.ok b e/\
  (Builtin.append_ #[155,155] 155 #[hv,.slice (some ⟨u.heap.size,0,none⟩) 1 1]).run prog e=.ok d i/\SW w e W K wide L (S++ [r]) X hs lv b hv b1 b2/\SW w i W K wide L (S++ [r]) X (hs++ [k]) lv b d b1 b2:=by
 have x:=h.alloc (.cells #[.int .i64 (k:Nat)] 3);have n:=x.alloc (.cells #[.slice g W r.cap] 98);have o:=Qbz (u.alloc (.cells #[.int .i64 (k:Nat)] 3)) (.slice g W r.cap) 98;rw[World.size_alloc] at o;obtain⟨b,e,y,q,_,f⟩:=n.app1 (s:=r) (nb:=u.heap.size+1) (c:=1) (by rw[o,MR.val,(h.okX r m).len,j]) (n.okX r m) t 148;have l:=f u.heap.size 0 (k:Nat) ((((Below.refl _ (u.alloc (.cells #[.int .i64 (k:Nat)] 3))).alloc lZ _).cell (p:=⟨u.heap.size,0,none⟩) (by rw[World.size_alloc];exact Nat.lt_succ_self _)).trans (Qbz _ _ _));obtain⟨d,i,z,A⟩:=q.app2 (k:=k) (nb:=u.heap.size) (c:=1) l v 155;exact⟨b,e,d,i,y,z,q,A⟩
end
theorem Quy(a:Vx)(bd W K wide:Nat)(rs:List MR)(w:Vz)(I:Nat->List Vec->List Vec->List Nat->Prop)(hI:Going K I)(h:ARow MR.cells w a bd rs)(b3:Oks w W K rs)(hl:rs.length<=1000)(hW:W<=1000)(de:wide<=W)(df:0<K)(b:4*K+1<68719476000)(h0:I 0 (rs.map MR.q) [] []):
 Calls prog 156 #[.slice a rs.length bd,.int .i64 wide] w fun e w'=>(∃(L S:List MR) (hs:Vy) (sv hv:Value),e=.returned (.agg #[.int .i64 wide,sv,hv])/\I wide (L.map MR.q) (S.map MR.q) hs/\S.length<=wide/\hs.length<=wide/\Grow w' w.heap.size 98 1 IsSl sv S.length (S.map MR.val)/\Grow w' w.heap.size 3 1 IsI hv hs.length (headsV hs)/\Oks w' W K S)/\Below w.heap.size w w':=by
 obtain⟨HH,HO,HI,H0⟩:=Ic h b3 hI h0;clear h b3 hI h0;go_enter func156,ntmps156;obtain⟨V,hV⟩:=nm ((w.alloc (.cells #[.int .i64 0,.slice none 0 0,.slice none 0 0] 195)).alloc (.cells #[.int .i64 wide,.slice none 0 0,.slice none 0 0] 195));have af:=Ub hV;have be:=Ud hV;have bf:=Ue hV;have HV:=Hi hV;clear hV;go_wp2_with fail;rw[HV.o];go_fit (Qur a bd rs V (HH.o.below af.o) hl);rintro e w1 ⟨⟨lv,rfl,hg⟩,aj⟩;have dg:O (SW w w1 W K wide rs [] [] [] lv (.slice none 0 0) (.slice none 0 0) (.slice none 0 0) (.slice none 0 0)):=Hi
  ⟨bf.o.below aj bf.o.lt,be.o.below aj be.o.lt,hg.mono af.o.size,Grow.nil _ _ _ _ _,Grow.nil _ _ _ _ _,(fun _ _=>by simp[Value.ownBlock]),HO.o.fr ((Fr.of_below af.o).trans (Fr.of_below aj)),(fun _ h=>by cases h),(fun _ h=>by cases h),af.o.trans (aj.mono af.o.size),⟨_,_,_,rfl⟩,⟨_,_,_,rfl⟩⟩
 clear hg aj be bf af HV;go_wp2_with fail;go_loopw [6,17] (fun lw i wr=>∃(k:Nat) (L S:List MR) (hs:Vy) (sv hv:Value),k<=wide/\i=.int .i64 k/\SW w wr W K wide L S [] hs lw sv hv sv hv/\I k (L.map MR.q) (S.map MR.q) hs/\L.length<=1000/\S.length<=k/\hs.length<=k) (fun _ i _=>wide - (intOf i).toNat)
 case atStart=>exact⟨0,rs,[],[],_,_,Nat.zero_le _,rfl,dg.o,H0.o,hl,Nat.zero_le _,Nat.zero_le _⟩
 case round=>
  obtain⟨k,L,S,hs,sv,hv,hk,rfl,hS,hi,b4,dz,ea⟩:=hrel;obtain⟨N,HJ⟩:=Ia hS hi;clear hi;by_cases eb:k<wide
  .
   obtain⟨a',cap',rfl,a4,a6⟩:=hS.left.mat hS.okL;have q1:((k:Int)<(wide:Int)):=by omega
   obtain⟨HP,HM⟩:=Ia a6 a4;clear hS a4 a6;go_wp2_with fail;go_fit (Quk a' cap' W k L wr HM.o b4 hW (by omega));rintro e w2 ⟨⟨v,rfl,hp⟩,b5⟩;have ag:=Hi (N.o.below b5);clear b5 HM;rcases hp with ⟨rfl,a7⟩|⟨j,r,hj,rfl,b6⟩
   .
    have HA:=Hi a7;clear a7;go_wp2;go_roundw
    case rel=>exact⟨k+1,L,S,hs,sv,hv,by omega,by go_num,ag.o,HI.o.skip HJ.o (fun r hr=>by obtain⟨x,hx,rfl⟩:=List.mem_map.1 hr;exact HA.o x hx),b4,by omega,by omega⟩
    case measure=>simp[intOf];omega
   .
    have bg:j<L.length:=(gZ hj).1;obtain⟨g,rfl⟩:=HP.o (by omega);obtain⟨b7,dh⟩:=Ia hj b6;have l:=ag.o.okL r (mO hj);have bh:=l.len;obtain⟨f,hf⟩:∃f,r.ts[k]?=some f:=⟨r.ts[k]'(by omega),gE (by omega)⟩;obtain⟨rb,ro,bi,_,_,_,_⟩:=l.row.at hf;have d:w2.cell? ⟨g,j,none⟩=some (.slice r.a r.ts.length r.cap):=ag.o.left.cell (by rw[List.getElem?_map,hj];rfl);rw[bi,bh] at d;obtain⟨ah,HF⟩:=Ia bi hf;have q2:((j:Int)<(L.length:Int)):=by omega
    have HD:=Hi (Quu w2 w.heap.size j (j+1) L.length (.slice (some ⟨g,0,none⟩) L.length cap') (L.map MR.val) ag.o.left rfl bg);simp only[Int.natCast_add,Int.natCast_one] at HD;have di:=Hi l;clear hj b6 l HP bi hf;go_wp2_with fail;go_fit HD.o;rintro e w3 ⟨g',v3,hg,b8,rfl,b9,ho⟩;obtain rfl:g=g':=by simpa [Value.ownBlock] using hg
    obtain⟨a8,rfl,bj⟩:=(ag.o.withX (Y:=[r]) (fun x hx=>by
     have e:x=r:=by simpa using hx
     subst e
     exact di.o)).erase hg b8 ho b9 bg
    have aa:O (I (k+1) (((L.eraseIdx j).map MR.q).map (lessBy k r.q)) ((S++ [r]).map MR.q) (hs++ [k])):=Hi (by
     have:=HI.o.step HJ.o (j:=j) (s:=r.q) (by rw[List.getElem?_map,b7.o];rfl) dh.o;rw[Qgz] at this
     simpa using this)
    have a9:O (∀x,x∈ L.eraseIdx j->∀i,Fits (lessBy k r.q x.q i) K):=Hi (fun x hx i=>HI.o.fit aa.o _ (List.mem_map.2 ⟨x.q,List.mem_map.2 ⟨x,hx,rfl⟩,rfl⟩) i);have ca:(L.eraseIdx j).length<=1000:=by rw[List.length_eraseIdx,if_pos bg];omega
    obtain⟨L1,cb⟩:=nm (L.eraseIdx j);rw[cb] at bj aa a9 ca ⊢;have cc:=Hi bj;clear bj hg b8 b9 ho HD b7 d ag N cb q2;go_wp2_with fail;go_loopw [36] (fun i wq=>∃(m:Nat) (T:List MR),m<=L1.length/\i=.int .i64 m/\T.length=L1.length/\SW w wq W K wide T S [r] hs (.slice (some ⟨g,0,none⟩) L1.length a8) sv hv sv hv/\(∀p x y,L1[p]?=some x->T[p]?=some y->y.q=if p<m then lessBy k r.q x.q else x.q)) (fun i _=>L1.length - (intOf i).toNat)
    case atStart=>exact⟨0,L1,Nat.zero_le _,rfl,rfl,cc.o,fun p x y hx hy=>by rw[hx] at hy;cases hy;simp⟩
    case round=>
     obtain⟨m,T,hm,rfl,ar,cd,hq⟩:=hrel;obtain⟨N,ab⟩:=Ia cd hq;clear cd hq cc;by_cases dj:m<L1.length
     .
      obtain⟨y,hy⟩:∃y,T[m]?=some y:=⟨T[m]'(by omega),gE (by omega)⟩;obtain⟨x,hx⟩:∃x,L1[m]?=some x:=⟨L1[m],gE dj⟩;have cf:y.q=x.q:=by have:=ab.o m x y hx hy;simpa using this
      have F:=N.o.okL y (mO hy);have l:=N.o.okX r (by simp);have G:=F.len;obtain⟨e,he⟩:∃e,y.ts[k]?=some e:=⟨y.ts[k]'(by omega),gE (by omega)⟩;have hf:=HF.o;obtain⟨yb,yo,bk,au,d0,d1,d2⟩:=F.row.at he;obtain⟨ec,ed,ba,av,z0,z1,z2⟩:=l.row.at hf;have ak:=ah.o;rw[ba] at ak;cases ak;have ee:g≠yb:=N.o.left.frac_ne rfl d0 (F.row.get he).1;have ef:g≠rb:=N.o.left.frac_ne rfl z0 (l.row.get hf).1;obtain⟨cg,ch,ci⟩:=F.row.get he;obtain⟨hv2,bb,bc⟩:=l.row.get hf;have eg:=F.sz e (mO he);have eh:=l.sz f (mO hf);have c0:wr.cell? ⟨g,m,none⟩=some (.slice y.a W y.cap):=by
       rw[<-G];exact N.o.left.cell (by rw[List.getElem?_map,hy];rfl)
      rw[bk] at c0;obtain⟨cj,HX,HY,al,bl,bm,ck,am,dk⟩:=Ih bk hx hy cf F l cg ch hv2;obtain⟨U,cl,dl⟩:=Ib bb (MR.q_at he) (MR.q_at hf);have q3:((m:Int)<(L1.length:Int)):=by omega
      have q4:((k:Int)<(W:Int)):=by omega
      obtain⟨dm,dn,dp,dq,dr,ds⟩:=Ie d0 d1 d2 z0 z1 z2;clear hy hx cf F l he hf bk ba cg ch hv2 bb z0 z1 z2;go_wp2_with fail;go_fit (Qbt ck.o);rintro e' w4 ⟨rfl,bn⟩;obtain⟨B,cm⟩:=Ia bn (N.o.below bn);clear bn d0 d1 d2 c0;by_cases h0:e.q=0
      .
       rw[decide_eq_true h0];have HZ:O (x.q k=0):=Hi (by rw[<-al.o,cl.o];exact h0);clear h0;go_wp2;go_roundw
       case rel=>
        refine⟨m+1,T,by omega,by go_num,ar,cm.o,fun p x' y' ad M=>?_⟩;rcases Nat.lt_trichotomy p m with hp|rfl|hp
        . rw[ab.o p x' y' ad M,if_pos hp,if_pos (by omega)]
        .
         obtain rfl:=Option.some.inj (HX.o.symm.trans ad);obtain rfl:=Option.some.inj (HY.o.symm.trans M);rw[if_pos (by omega),Qux HZ.o];exact al.o
        . rw[ab.o p x' y' ad M,if_neg (by omega),if_neg (by omega)]
       case measure=>simp[intOf];omega
      .
       rw[decide_eq_false h0];clear h0;have ae:yb<w4.heap.size:=Nat.lt_of_lt_of_le au B.o.size;have an:rb<w4.heap.size:=Nat.lt_of_lt_of_le av B.o.size;obtain⟨K0,K1,K2,R0,R1,R2,cn,cp,bo⟩:=Ih (ce B.o au dm.o) (ce B.o au dn.o) (ce B.o au dp.o) (ce B.o av dq.o) (ce B.o av dr.o) (ce B.o av ds.o) (bl.o.row.below B.o) (bm.o.row.below B.o) (ck.o.below B.o);have bp:=Hi (dk.o.below B.o);have H:O (Bl w4 w4):=Hi bR;go_wp2_with fail;have u0:=ce H.o ae K0.o
       obtain⟨u1,u2⟩:=Ja H.o ae K1.o K2.o;obtain⟨v0,v1,v2⟩:=Jb H.o an R0.o R1.o R2.o;go_region_held3 (fun v=>v.cell? ⟨yb,yo+k*3,none⟩=some e.x/\v.cell? ⟨yb,yo+k*3+1,none⟩=some e.y/\v.cell? ⟨yb,yo+k*3+2,none⟩=some e.z/\v.cell? ⟨rb,ro+k*3,none⟩=some f.x/\v.cell? ⟨rb,ro+k*3+1,none⟩=some f.y/\v.cell? ⟨rb,ro+k*3+2,none⟩=some f.z) ((first|(simp [*];done)|go_keep)) (first
        |(
         go_at_call 66;apply cM
         first
          |exact Qb8 bo.o bp.o am.o U.o (by omega)
          |exact Qb8 (bo.o.below H.o.drew) (bp.o.below H.o.drew) am.o U.o (by omega)
          |exact Qb8 (bo.o.below H.o.drew.drew) (bp.o.below H.o.drew.drew) am.o U.o (by omega)
         rintro e5 w5 ⟨⟨v5,rfl,aw⟩,ax⟩;obtain⟨n5,a5,l5,c5,m5,o5,p5,rfl,aw⟩:=aw
         first
          |have C:O (Bl w4 w5):=Hi ax
          |have C:O (Bl w4 w5):=Hi (bR.drew.trans ax)
          |have C:O (Bl w4 w5):=Hi (bR.drew.drew.trans ax)
         have cq:O (FracV w5 (.agg #[.bool n5,.slice a5 l5 c5,.slice m5 o5 p5]) (e.q / f.q)):=Hi ⟨n5,a5,l5,c5,m5,o5,p5,rfl,aw⟩;clear aw ax;obtain⟨u0,u1,u2⟩:=Jb C.o ae K0.o K1.o K2.o;obtain⟨v0,v1,v2⟩:=Jb C.o an R0.o R1.o R2.o
         skip)
        |(
         go_at_call 169;apply cM;(first
           |(
            have HL:=Qes y.a r.a y.cap r.cap (4*K+1) (e.k+f.k) y.ts r.ts (.bool n5) (.slice a5 l5 c5) (.slice m5 o5 p5) (e.q / f.q) w5 (cn.o.below C.o) (cp.o.below C.o) (by omega) (by omega) cq.o (am.o.div U.o ci bc) (by omega) (fun t ht s hs=>by have:=bl.o.sz t ht;have:=bm.o.sz s hs;omega) (by omega);rw[G,cj.o,ah.o] at HL
            exact HL)
           |(
            have HL:=Qes y.a r.a y.cap r.cap (4*K+1) (e.k+f.k) y.ts r.ts (.bool n5) (.slice a5 l5 c5) (.slice m5 o5 p5) (e.q / f.q) w5.drew (cn.o.below C.o.drew) (cp.o.below C.o.drew) (by omega) (by omega) (cq.o.below bR.drew) (am.o.div U.o ci bc) (by omega) (fun t ht s hs=>by have:=bl.o.sz t ht;have:=bm.o.sz s hs;omega) (by omega);rw[G,cj.o,ah.o] at HL
            exact HL))
         rintro e6 w6 ⟨⟨g6,us,rfl,dt,cr,cs⟩,bq⟩
         first
          |have ay:O (Bl w4 w6):=Hi (C.o.trans (bq.mono C.o.size))
          |have ay:O (Bl w4 w6):=Hi (C.o.trans (((bR.drew).trans bq).mono C.o.size))
         obtain⟨br,du,dv⟩:=Ib (cm.o.below ay.o) cr cs;clear cr cs bq dt;obtain⟨u0,u1,u2⟩:=Jb ay.o ae K0.o K1.o K2.o;obtain⟨v0,v1,v2⟩:=Jb ay.o an R0.o R1.o R2.o;have fz:=br.o.left.free m;have fc:w6.cell? ⟨g,m,none⟩=some y.val:=br.o.left.cell (by rw[List.getElem?_map,HY.o];rfl)
         skip))
       all_goals
        go_wp2_with fail;obtain⟨r',ct,bs,cu⟩:=MOk.made (v:=lessBy k r.q x.q) (K:=K) du.o G (by rw[G];exact dv.o) df (fun i hi=>by
         show y.q i - qAt r.ts i*(e.q / f.q)=_
         rw[qAt_q,al.o,<-cl.o,<-dl.o,al.o]
         rfl) (fun i hi=>by
         have h1:x.q i=0:=by rw[<-al.o];exact MR.q_beyond (by omega)
         have h2:r.q i=0:=MR.q_beyond (by omega);unfold lessBy;rw[h1,h2]
         grind) (fun i _=>a9.o x (mO HX.o) i)
        refine⟨⟨m+1,T.set m r',by omega,by go_num,by rw[List.length_set];exact ar,?_,fun p x' y' ad M=>?_⟩,?_⟩
        . rw[<-ct]
          exact br.o.setL ar.symm (by omega) bs
        .
         rcases Nat.lt_trichotomy p m with hp|rfl|hp
         . rw[List.getElem?_set_ne (by omega)] at M
           rw[ab.o p x' y' ad M,if_pos hp,if_pos (by omega)]
         .
          obtain rfl:=Option.some.inj (HX.o.symm.trans ad);rw[List.getElem?_set_self (by omega)] at M;obtain rfl:=Option.some.inj M;rw[if_pos (by omega)];exact cu
         . rw[List.getElem?_set_ne (by omega)] at M
           rw[ab.o p x' y' ad M,if_neg (by omega),if_neg (by omega)]
        . simp[intOf]
          omega
     .
      have bt:m=L1.length:=by omega
      subst bt;have dw:O (T.map MR.q=(L1.map MR.q).map (lessBy k r.q)):=Hi (by
       apply List.ext_getElem?;intro p;simp only[List.getElem?_map];rcases Nat.lt_or_ge p L1.length with hp|hp
       .
        obtain⟨x,hx⟩:∃x,L1[p]?=some x:=⟨L1[p],gE hp⟩;obtain⟨y,hy⟩:∃y,T[p]?=some y:=⟨T[p]'(by omega),gE (by omega)⟩;rw[hx,hy];simp only[Option.map_some];rw[ab.o p x y hx hy,if_pos hp]
       . rw[List.getElem?_eq_none (by omega),List.getElem?_eq_none hp]
         rfl)
      have bu:O (I (k+1) (T.map MR.q) ((S++ [r]).map MR.q) (hs++ [k])):=Hi (by rw[dw.o];exact aa.o);have bv:O (k+1<=wide):=Hi (by omega);have bw:O (T.length<=1000):=Hi (by omega);have bx:O ((S++ [r]).length<=k+1):=Hi (by rw[List.length_append];simp;omega);have bz:O ((hs++ [k]).length<=k+1):=Hi (by rw[List.length_append];simp;omega);have P:O (wide - (k+1)<wide - k):=Hi (by omega);have Q:S.length<=1000:=by omega
      have R:hs.length<=1000:=by omega
      obtain⟨E,hE⟩:=nm wr.drew;have Z:O (SW w E W K wide T S [r] hs (.slice (some ⟨g,0,none⟩) L1.length a8) sv hv sv hv):=Hi (by rw[<-hE];exact N.o.drew);have dx:=Hi hE;obtain⟨ei,dy,ej,ek,cv,cw,cx,az⟩:=Z.o.ord1 (List.mem_singleton.2 rfl) ah.o k Q R;obtain⟨em,en,eo,ep,cy,cz,c1,a0⟩:=Z.o.ord2 (List.mem_singleton.2 rfl) ah.o k Q R;obtain⟨eq,er,es,et,c2,c3,c4,a1⟩:=Z.o.ord3 (List.mem_singleton.2 rfl) ah.o k Q R;obtain⟨b0,ai,c6,ao,c7,ap,c8,c9,da⟩:=Ih cx az c1 a0 c4 a1 cv cw cy;obtain⟨db,dc,dd⟩:=Ib cz c2 c3;obtain⟨eu,ev,rfl,_,_,_⟩:=az.rows.slice;obtain⟨ew,ex,rfl,_,_,_⟩:=az.heads.slice;obtain⟨ey,ez,rfl,_,_,_⟩:=a0.rows.slice;obtain⟨e0,e7,rfl,_,_,_⟩:=a0.heads.slice
      obtain⟨e8,e9,rfl,_,_,_⟩:=a1.rows.slice;obtain⟨fa,fb,rfl,_,_,_⟩:=a1.heads.slice;have A:Box2 (w.heap.size+1) sv hv E:=Z.o.box2;clear hE cv cw cx az cy cz c1 a0 c2 c3 c4 a1 ab ar hm;go_wp2_with fail;refine AnyDs.begin (S:=Box2 (w.heap.size+1) sv hv) (D:=[11,13]) (by kernel_rfl) ?_;rw[dx.o];refine AnyDs.take (i:=0) (v:=?_) rfl (by kernel_rfl) (by kernel_rfl) (by kernel_rfl) (by kernel_rfl) (by kernel_rfl) (fun _ _ _ h=>h) (Or.inl ⟨by rfl,?_⟩) A ?_
      rotate_left
      .
       intro wq c;obtain⟨a2,a3⟩:=c
       first|(go_simp;done)|(go_simp;with_reducible rfl)
      (try simp only[Act.put,sA,sB,sC]);refine AnyDs.take (i:=1) (v:=?_) rfl (by kernel_rfl) (by kernel_rfl) (by kernel_rfl) (by kernel_rfl) (by kernel_rfl) (fun _ _ _ h=>h) (Or.inl ⟨by rfl,?_⟩) A ?_
      rotate_left
      .
       intro wq c;obtain⟨a2,a3⟩:=c
       first|(go_simp;done)|(go_simp;with_reducible rfl)
      (try simp only[Act.put,sA,sB,sC]);refine AnyDs.take (i:=2) (v:=?_) rfl (by kernel_rfl) (by kernel_rfl) (by kernel_rfl) (by kernel_rfl) (by kernel_rfl) (fun _ _ _ h=>h) (Or.inl ⟨by rfl,?_⟩) A ?_
      rotate_left
      .
       intro wq c;obtain⟨a2,a3⟩:=c
       first|(go_simp;done)|(go_simp;with_reducible rfl)
      (try simp only[Act.put,sA,sB,sC]);refine AnyDs.take (i:=5) (v:=?_) rfl (by kernel_rfl) (by kernel_rfl) (by kernel_rfl) (by kernel_rfl) (by kernel_rfl) (fun _ _ _ h=>h) (Or.inl ⟨by rfl,?_⟩) A ?_
      rotate_left
      .
       intro wq c;obtain⟨a2,a3⟩:=c
       first|(go_simp;done)|(go_simp;with_reducible rfl)
      (try simp only[Act.put,sA,sB,sC]);refine AnyDs.take (i:=6) (v:=?_) rfl (by kernel_rfl) (by kernel_rfl) (by kernel_rfl) (by kernel_rfl) (by kernel_rfl) (fun _ _ _ h=>h) (Or.inl ⟨by rfl,?_⟩) A ?_
      rotate_left
      .
       intro wq c;obtain⟨a2,a3⟩:=c
       first|(go_simp;done)|(go_simp;with_reducible rfl)
      (try simp only[Act.put,sA,sB,sC]);refine AnyDs.takeP (i:=7) (v:=?_) rfl (by kernel_rfl) (by kernel_rfl) (by kernel_rfl) (by kernel_rfl) (fun _ _ _ h=>h) (Or.inl ⟨by rfl,?_⟩) (fun _=>A) ?_
      rotate_left
      .
       intro wq c;clear c
       first|(go_simp;done)|(go_simp;with_reducible rfl)
      (try simp only[Act.put,sA,sB,sC]);refine AnyDs.ready (rs:=[3,8]) (by kernel_rfl) (by simp) ?_;refine AllDs.cons (by rfl) ?_ (AllDs.cons (by rfl) ?_ AllDs.nil)
      .
       intro n b;go_simp;(try dsimp only);refine b.out _ _ (fun _ _=>(Z.o.alloc _).box2) ?_;clear b n;(try simp only[Act.put,sA,sB,sC]);refine AnyDs.ready (rs:=[4,8]) (by kernel_rfl) (by simp) ?_;refine AllDs.cons (by rfl) ?_ (AllDs.cons (by rfl) ?_ AllDs.nil)
       .
        intro n b;refine Qbj (t:=148) rfl (.tmp 64) (.tmp 66) rfl (vs:=sv) (vx:=.slice (some ⟨E.heap.size,0,none⟩) 1 1) (by simp[Act.eval]) (by simp[Act.eval]) c8.o ?_;(try dsimp only);refine b.out _ _ (fun _ _=>b0.o.box2) ?_;clear b n;(try simp only[Act.put,sA,sB,sC]);refine AnyDs.takeP (i:=10) (v:=?_) rfl (by kernel_rfl) (by kernel_rfl) (by kernel_rfl) (by kernel_rfl) (fun _ _ _ h=>h) (Or.inl ⟨by rfl,?_⟩) (fun _=>b0.o.box2) ?_
        rotate_left
        .
         intro wq c;clear c
         first|(go_simp;done)|(go_simp;with_reducible rfl)
        (try simp only[Act.put,sA,sB,sC]);refine AnyDs.ready (rs:=[8]) (by kernel_rfl) (by simp) ?_;refine AllDs.cons (by rfl) ?_ AllDs.nil;intro n b;go_simp;(try dsimp only);refine b.out _ _ (fun _ _=>(b0.o.alloc _).box2) ?_;clear b n;(try simp only[Act.put,sA,sB,sC]);refine AnyDs.ready (rs:=[9]) (by kernel_rfl) (by simp) ?_;refine AllDs.cons (by rfl) ?_ AllDs.nil;intro n b;refine Qbj (t:=155) rfl (.tmp 69) (.tmp 71) rfl (vs:=hv) (vx:=.slice (some ⟨dy.heap.size,0,none⟩) 1 1) (by simp[Act.eval]) (by simp[Act.eval]) c9.o ?_;(try dsimp only);refine b.out _ _ (fun _ _=>ai.o.box2) ?_;clear b n;(try simp only[Act.put,sA,sB,sC]);obtain⟨-,x1,-⟩:=zc ai.o.box
        obtain⟨-,-,x2,-⟩:=zc ai.o.box;have z1:=ai.o.box.free 1;have z2:=ai.o.box.free 2;refine AnyDs.ready (rs:=[11]) (by kernel_rfl) (by simp) ?_;refine AllDs.cons (by rfl) ?_ AllDs.nil;intro n b;go_simp;(try dsimp only);refine b.out _ _ (fun h=>absurd (by decide) h) ?_;clear b n;(try simp only[Act.put,sA,sB,sC]);refine AnyDs.takeP (i:=12) (v:=?_) rfl (by kernel_rfl) (by kernel_rfl) (by kernel_rfl) (by kernel_rfl) (fun _ _ _ h=>h) (Or.inl ⟨by rfl,?_⟩) (fun h=>absurd h (Qgf (d:=11) (by kernel_rfl) (by kernel_rfl))) ?_
        rotate_left
        .
         intro wq c;clear c
         first|(go_simp;done)|(go_simp;with_reducible rfl)
        (try simp only[Act.put,sA,sB,sC]);refine AnyDs.ready (rs:=[13]) (by kernel_rfl) (by simp) ?_;refine AllDs.cons (by rfl) ?_ AllDs.nil;intro n b;go_simp;(try dsimp only);refine b.out _ _ (fun h=>absurd (by decide) h) ?_;clear b n;(try simp only[Act.put,sA,sB,sC]);refine AnyDs.done (by kernel_rfl) ?_ _;clear x1 x2 z1 z2;have J:=ai.o.put.withX okNil;rw[show (S++ [r]).length=S.length+1 by simp,show (hs++ [k]).length=hs.length+1 by simp] at J;have aq:=Hi J;clear J;go_wp2_with fail;refine⟨⟨k+1,T,S++ [r],hs++ [k],_,_,bv.o,by go_num,aq.o,bu.o,bw.o,bx.o,bz.o⟩,?_⟩
        first|exact P.o|(simp only[intOf];exact P.o)|(simp [intOf];exact P.o)
       .
        intro n b;go_simp;(try dsimp only);refine b.out _ _ (fun _ _=>((Z.o.alloc _).alloc _).box2) ?_;clear b n;(try simp only[Act.put,sA,sB,sC]);refine AnyDs.ready (rs:=[4]) (by kernel_rfl) (by simp) ?_;refine AllDs.cons (by rfl) ?_ AllDs.nil;intro n b;refine Qbj (t:=148) rfl (.tmp 64) (.tmp 66) rfl (vs:=sv) (vx:=.slice (some ⟨E.heap.size,0,none⟩) 1 1) (by simp[Act.eval]) (by simp[Act.eval]) da.o ?_;(try dsimp only);refine b.out _ _ (fun _ _=>c6.o.box2) ?_;clear b n;(try simp only[Act.put,sA,sB,sC]);refine AnyDs.takeP (i:=10) (v:=?_) rfl (by kernel_rfl) (by kernel_rfl) (by kernel_rfl) (by kernel_rfl) (fun _ _ _ h=>h) (Or.inl ⟨by rfl,?_⟩) (fun _=>c6.o.box2) ?_
        rotate_left
        .
         intro wq c;clear c
         first|(go_simp;done)|(go_simp;with_reducible rfl)
        (try simp only[Act.put,sA,sB,sC]);refine AnyDs.ready (rs:=[9]) (by kernel_rfl) (by simp) ?_;refine AllDs.cons (by rfl) ?_ AllDs.nil;intro n b;refine Qbj (t:=155) rfl (.tmp 69) (.tmp 71) rfl (vs:=hv) (vx:=.slice (some ⟨E.heap.size+1,0,none⟩) 1 1) (by simp[Act.eval]) (by simp[Act.eval]) db.o ?_;(try dsimp only);refine b.out _ _ (fun _ _=>ao.o.box2) ?_;clear b n;(try simp only[Act.put,sA,sB,sC]);obtain⟨-,x1,x2,-⟩:=zc ao.o.box;have z1:=ao.o.box.free 1;have z2:=ao.o.box.free 2;refine AnyDs.ready (rs:=[11]) (by kernel_rfl) (by simp) ?_;refine AllDs.cons (by rfl) ?_ AllDs.nil;intro n b;go_simp;(try dsimp only);refine b.out _ _ (fun h=>absurd (by decide) h) ?_
        clear b n;(try simp only[Act.put,sA,sB,sC]);refine AnyDs.takeP (i:=12) (v:=?_) rfl (by kernel_rfl) (by kernel_rfl) (by kernel_rfl) (by kernel_rfl) (fun _ _ _ h=>h) (Or.inl ⟨by rfl,?_⟩) (fun h=>absurd h (Qgf (d:=11) (by kernel_rfl) (by kernel_rfl))) ?_
        rotate_left
        .
         intro wq c;clear c
         first|(go_simp;done)|(go_simp;with_reducible rfl)
        (try simp only[Act.put,sA,sB,sC]);refine AnyDs.ready (rs:=[13]) (by kernel_rfl) (by simp) ?_;refine AllDs.cons (by rfl) ?_ AllDs.nil;intro n b;go_simp;(try dsimp only);refine b.out _ _ (fun h=>absurd (by decide) h) ?_;clear b n;(try simp only[Act.put,sA,sB,sC]);refine AnyDs.done (by kernel_rfl) ?_ _;clear x1 x2 z1 z2;have J:=ao.o.put.withX okNil;rw[show (S++ [r]).length=S.length+1 by simp,show (hs++ [k]).length=hs.length+1 by simp] at J;have aq:=Hi J;clear J;go_wp2_with fail;refine⟨⟨k+1,T,S++ [r],hs++ [k],_,_,bv.o,by go_num,aq.o,bu.o,bw.o,bx.o,bz.o⟩,?_⟩
        first|exact P.o|(simp only[intOf];exact P.o)|(simp [intOf];exact P.o)
      .
       intro n b;go_simp;(try dsimp only);refine b.out _ _ (fun _ _=>(Z.o.alloc _).box2) ?_;clear b n;(try simp only[Act.put,sA,sB,sC]);refine AnyDs.ready (rs:=[3]) (by kernel_rfl) (by simp) ?_;refine AllDs.cons (by rfl) ?_ AllDs.nil;intro n b;go_simp;(try dsimp only);refine b.out _ _ (fun _ _=>((Z.o.alloc _).alloc _).box2) ?_;clear b n;(try simp only[Act.put,sA,sB,sC]);refine AnyDs.ready (rs:=[4]) (by kernel_rfl) (by simp) ?_;refine AllDs.cons (by rfl) ?_ AllDs.nil;intro n b;refine Qbj (t:=148) rfl (.tmp 64) (.tmp 66) rfl (vs:=sv) (vx:=.slice (some ⟨E.heap.size+1,0,none⟩) 1 1) (by simp[Act.eval]) (by simp[Act.eval]) dc.o ?_;(try dsimp only);refine b.out _ _ (fun _ _=>c7.o.box2) ?_;clear b n
       (try simp only[Act.put,sA,sB,sC]);refine AnyDs.takeP (i:=10) (v:=?_) rfl (by kernel_rfl) (by kernel_rfl) (by kernel_rfl) (by kernel_rfl) (fun _ _ _ h=>h) (Or.inl ⟨by rfl,?_⟩) (fun _=>c7.o.box2) ?_
       rotate_left
       .
        intro wq c;clear c
        first|(go_simp;done)|(go_simp;with_reducible rfl)
       (try simp only[Act.put,sA,sB,sC]);refine AnyDs.ready (rs:=[9]) (by kernel_rfl) (by simp) ?_;refine AllDs.cons (by rfl) ?_ AllDs.nil;intro n b;refine Qbj (t:=155) rfl (.tmp 69) (.tmp 71) rfl (vs:=hv) (vx:=.slice (some ⟨E.heap.size,0,none⟩) 1 1) (by simp[Act.eval]) (by simp[Act.eval]) dd.o ?_;(try dsimp only);refine b.out _ _ (fun _ _=>ap.o.box2) ?_;clear b n;(try simp only[Act.put,sA,sB,sC]);obtain⟨-,x1,x2,-⟩:=zc ap.o.box;have z1:=ap.o.box.free 1;have z2:=ap.o.box.free 2;refine AnyDs.ready (rs:=[11]) (by kernel_rfl) (by simp) ?_;refine AllDs.cons (by rfl) ?_ AllDs.nil;intro n b;go_simp;(try dsimp only);refine b.out _ _ (fun h=>absurd (by decide) h) ?_
       clear b n;(try simp only[Act.put,sA,sB,sC]);refine AnyDs.takeP (i:=12) (v:=?_) rfl (by kernel_rfl) (by kernel_rfl) (by kernel_rfl) (by kernel_rfl) (fun _ _ _ h=>h) (Or.inl ⟨by rfl,?_⟩) (fun h=>absurd h (Qgf (d:=11) (by kernel_rfl) (by kernel_rfl))) ?_
       rotate_left
       .
        intro wq c;clear c
        first|(go_simp;done)|(go_simp;with_reducible rfl)
       (try simp only[Act.put,sA,sB,sC]);refine AnyDs.ready (rs:=[13]) (by kernel_rfl) (by simp) ?_;refine AllDs.cons (by rfl) ?_ AllDs.nil;intro n b;go_simp;(try dsimp only);refine b.out _ _ (fun h=>absurd (by decide) h) ?_;clear b n;(try simp only[Act.put,sA,sB,sC]);refine AnyDs.done (by kernel_rfl) ?_ _;clear x1 x2 z1 z2;have J:=ap.o.put.withX okNil;rw[show (S++ [r]).length=S.length+1 by simp,show (hs++ [k]).length=hs.length+1 by simp] at J;have aq:=Hi J;clear J;go_wp2_with fail;refine⟨⟨k+1,T,S++ [r],hs++ [k],_,_,bv.o,by go_num,aq.o,bu.o,bw.o,bx.o,bz.o⟩,?_⟩
       first|exact P.o|(simp only[intOf];exact P.o)|(simp [intOf];exact P.o)
  .
   have bt:k=wide:=by omega
   subst bt;obtain⟨t1,t2,rfl,_,_,_⟩:=N.o.rows.slice;obtain⟨s1,s2,rfl,_,_,_⟩:=N.o.heads.slice;obtain⟨x0,x1,x2,-⟩:=zc N.o.box;obtain⟨y0,y1,y2,-⟩:=zc N.o.res;have f0:=N.o.res.free 0;have f1:=N.o.res.free 1;have f2:=N.o.res.free 2;clear hS;go_wp2;obtain⟨e1,e2,e3,e4⟩:=N.o.done (.int .i64 k) (.slice t1 S.length t2) (.slice s1 hs.length s2)
   refine bodyPost_ret (v:=.agg #[.int .i64 k,.slice t1 S.length t2,.slice s1 hs.length s2]) (results_cell_row rfl _ _ w.heap.size 195 #[.int .i64 k,.slice t1 S.length t2,.slice s1 hs.length s2] (0,0) _ rfl (((N.o.res.set 0 _).set 1 _).set 2 _) underlying195 rfl Tryz.stairsInfo) rfl ?_;exact⟨⟨L,S,hs,_,_,rfl,HJ.o,by omega,by omega,e1,e2,e3⟩,e4⟩
end Go.Proofs.YtkkadnoecklepaaGreatDoor
