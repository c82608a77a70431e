import Derived.Test.YtppkmifkpjkgpaaGreatDoorC30StillC
namespace Go.Proofs.YtppkmifkpjkgpaaGreatDoor
open Go.RowKit
open Go.Proofs.Tryz
set_option linter.unusedSimpArgs false
set_option linter.unusedVariables false
set_option maxHeartbeats 8000000
set_option maxRecDepth 1000000
def agnStep(v:Vec)(p:Nat × Rat × Rat):Vec:=upd (upd v (2*p.1) (v (2*p.1) - p.2.1)) (2*p.1+1) (v (2*p.1+1) - p.2.2)
def agn(vs:List (Nat × Rat × Rat)):Vec:=vs.foldl agnStep (fun _=>0)
theorem Qdf{vs:List (Nat × Rat × Rat)}{k:Nat}{p:Nat × Rat × Rat}(h:vs[k]?=some p):agn (vs.take (k+1))=agnStep (agn (vs.take k)) p:=by
 unfold agn;rw[List.take_add_one,h];simp[List.foldl_append]
theorem agn_x{v:Vec}{p:Nat × Rat × Rat}:agnStep v p (2*p.1)=v (2*p.1) - p.2.1:=by
 unfold agnStep;rw[Qad _ _ (by omega),Qar]
theorem agn_y{v:Vec}{p:Nat × Rat × Rat}:agnStep v p (2*p.1+1)=v (2*p.1+1) - p.2.2:=Qar _ _ _
theorem Qlj{v:Vec}{p:Nat × Rat × Rat}{i:Nat}(a:i≠2*p.1)(b:i≠2*p.1+1):agnStep v p i=v i:=by
 unfold agnStep;rw[Qad _ _ b,Qad _ _ a]
structure LoadV (n:Nat) (l:L3) (p:Nat × Rat × Rat):Prop where
 j:l.j=(p.1:Nat)
 lt:p.1<n
 x:QOf l.x.data.toList p.2.1
 y:QOf l.y.data.toList p.2.2
 sx:l.x.size<=1048576
 sy:l.y.size<=1048576
theorem of_val{s:Vs}{q:Rat}{w:Vz}(a:Glob w)(b:QOf s.data.toList q)(g:s.size<=1048576):Calls prog 82 #[.string s] w (FNew w q):=by
 obtain⟨m,c⟩:=a.most;refine(Qjy s m w c (by omega)).mono ?_;rintro e w' ⟨h,d,f⟩;rw[b.inj d];exact f
theorem Qg1{w:Vz}{g K i:Nat}{us:List FE}{x y z:Value}{q:Rat}(h:QBlk w g us)(a:i<us.length)(b:FracV w (.agg #[x,y,z]) q)(c:Fits q K)(d:0<K):QBlk (((w.setCell ⟨g,i*3,none⟩ x).setCell ⟨g,i*3+1,none⟩ y).setCell ⟨g,i*3+2,none⟩ z) g (us.set i ⟨x,y,z,q,K⟩):=
 h.set (k:=i) (e:=⟨x,y,z,q,K⟩) a ⟨b,c,d⟩
theorem Qvn(a1 a2 a3 al:Vx)(c1 c2 c3 cl nj nb nh K:Nat)(A:List L3)(vs:List (Nat × Rat × Rat))(w:Vz)(hg:Glob w)(hl:ARow L3.cells w al cl A)(bx:A.length<=1000)(hn:nj<=10)(aq:vs.length=A.length)(ar:∀(i:Nat) (l:L3) (p:Nat × Rat × Rat),A[i]?=some l->vs[i]?=some p->LoadV nj l p)
 (ag:0<K) (hK:K+4194305<68719476000) (ab:∀k i,Fits (agn (vs.take k) i) K):
 Calls prog 60 #[.agg #[.slice a1 nj c1,.slice a2 nb c2,.slice a3 nh c3],.slice al A.length cl] w fun e w'=>(∃(g N:Nat) (us:List FE),N=2*nj/\e=.returned (.slice (some ⟨g,0,none⟩) N N)/\QBlk w' g us/\us.length=N/\∀(i:Nat) (t:FE),us[i]?=some t->t.q=agn vs i/\t.k<=K)/\Below w.heap.size w w':=by
 obtain⟨HG,ah,ai,bi,HF⟩:=Id hg hl aq ar ab;obtain⟨N,hN⟩:=nm (2*nj);have au:=fun w=>Qdc N (by omega) w
 obtain⟨MC,aj⟩:=nm (((List.replicate N FE.zero).flatMap FE.cells).toArray);rw[aj] at au;have bj:=Hi aj.symm;have av:2*(nj:Int)=(N:Int):=by omega
 have aw:=Hi (fun u=>Qg0 a1 a2 a3 c1 c2 c3 nj nb nh u hn);simp only[av] at aw;have HN:=Hi hN;clear hN av;clear hg hl aq ar ab aj;go_enter func60,ntmps60;go_wp2_with fail;go_fit (aw.o _);rintro e w1 ⟨rfl,ax⟩;have ak:O (Below w.heap.size w w1):=Hi ((bR.alloc lZ _).trans (ax.mono (by simp)));clear ax;obtain⟨g,hg⟩:=nm w1.heap.size;obtain⟨V,hV⟩:=nm (w1.alloc (.cells MC 141));have r:w.heap.size<=g:=by rw[<-hg];exact ak.o.size
 have bk:O (Below w.heap.size w V):=Hi (by rw[<-hV];exact ak.o.alloc ak.o.size _);have bl:O (QBlk V g (List.replicate N FE.zero)):=Hi (by rw[<-hV,<-hg];exact QBlk.new w1 N MC bj.o);have HV:=Hi hV;clear hV;go_wp2_with fail;rw[HV.o]
 try rw[hg]
 clear au;go_loopw [14] (fun i wr=>∃(k:Nat) (us:List FE),k<=A.length/\i=.int .i64 k/\us.length=N/\QBlk wr g us/\(∀(i:Nat) (t:FE),us[i]?=some t->t.q=agn (vs.take k) i/\t.k<=K)/\Below w.heap.size w wr) (fun i _=>A.length - (intOf i).toNat)
 case atStart=>
  refine⟨0,_,Nat.zero_le _,rfl,by simp,bl.o,fun i t f=>?_,bk.o⟩;obtain⟨_,rfl⟩:=List.mem_replicate.1 (mO f);exact⟨rfl,ag⟩
 case round=>
  obtain⟨k,us,hk,rfl,ay,az,a0,hb⟩:=hrel;obtain⟨HU,HQ,am,HB⟩:=Ic ay az a0 hb;clear ay az a0 hb;by_cases bm:k<A.length
  .
   obtain⟨l,hl⟩:∃l,A[k]?=some l:=⟨A[k],gE bm⟩;obtain⟨p,hp⟩:∃p,vs[k]?=some p:=⟨vs[k]'(by have:=ai.o;omega),gE (by have:=ai.o;omega)⟩;have M:=bi.o k l p hl hp;obtain⟨lb,lo,rfl,a4,d0,d1,d2⟩:=(ah.o.below HB.o).load hl;obtain⟨bz,b0,e',b1,_⟩:=ah.o.load hl;cases e';rw[M.j] at d0;have bn:lb≠g:=by omega
   have bw:=bn.symm;obtain⟨X,hX⟩:=nm (2*p.1);obtain⟨Y,hY⟩:=nm (2*p.1+1);have a6:2*(p.1:Int)=(X:Int):=by omega
   have a7:2*(p.1:Int)+1=(Y:Int):=by omega
   have a8:=M.lt;have b2:X<N:=by have:=HN.o;omega
   have b3:Y<N:=by have:=HN.o;omega
   obtain⟨a9,ba⟩:=Ia (fun u=>Qet p.1 u (by omega)) (fun u=>Qeu p.1 u (by omega));simp only[a7] at ba;simp only[a6] at a9;have bb:X≠Y:=by omega
   obtain⟨HX,HY,HP,c⟩:=Ic hX hY hp M;have q1:((k:Int)<(A.length:Int)):=by omega
   have q2:((X:Int)<(N:Int)):=by omega
   have q3:((Y:Int)<(N:Int)):=by omega
   have bo:=Hi hl;clear hl hp M hX hY a6 a7 a8;go_wp2_with fail;go_region_held3 (fun v=>v.cell? ⟨lb,lo+k*3,none⟩=some (.int .i64 (p.1:Nat))) ((first|(simp [*];done)|go_keep)) (first
    |(
     go_at_call 80;apply cM;apply a9.o
     rintro e2 w2 ⟨rfl,rfl⟩)
    |(
     go_at_call 81;apply cM;apply ba.o
     rintro e2 w2 ⟨rfl,rfl⟩)
    |fail)
   obtain⟨z0,P⟩:∃z0,us[X]?=some z0:=⟨us[X]'(by have:=HU.o;omega),gE (by have:=HU.o;omega)⟩;obtain⟨HZ,an⟩:=Ia (HQ.o.row.get P) (am.o _ _ P);obtain⟨gy,oy,ao,_,t0,t1,t2⟩:=HQ.o.row.at P;cases ao;simp only[Nat.zero_add] at t0 t1 t2;obtain⟨B,C,D,bc⟩:=Ic t0 t1 t2 d1;have bd:=HQ.o.blk.lt;obtain⟨ap,E⟩:=Ia (fun u (hu:Below wr.heap.size wr u)=>of_val ((HG.o.below HB.o).below hu) c.o.x c.o.sx) (c.o.x.fits (n:=1048576) (by have:=c.o.sx;simpa using this));have bp:=an.o.2;clear P;go_wp2_with fail
   first|(go_region_with (first
    |(
     go_at_call 82;apply cM;apply ap.o;(focus(repeat(first|exact Below.refl _ _|apply Qav|apply Qaw)));rintro e2 w2 ⟨⟨v2,rfl,hv2⟩,b⟩;obtain⟨n2,F,l2,G,m2,o2,p2,rfl,hv2⟩:=hv2;(first
       |have a:O (Below wr.heap.size wr w2):=Hi b
       |have a:O (Below wr.heap.size wr w2):=Hi (bR.drew.trans b)
       |have a:O (Below wr.heap.size wr w2):=Hi (bR.drew.drew.trans b))
     have s:O (FracV w2 (.agg #[.bool n2,.slice F l2 G,.slice m2 o2 p2]) p.2.1):=Hi ⟨n2,F,l2,G,m2,o2,p2,rfl,hv2⟩;clear hv2 b t0 t1 t2 d1;obtain⟨t0,t1,t2⟩:=Jb a.o bd B.o C.o D.o;have d1:=ce a.o a4 bc.o
     skip)
    |(
     go_at_call 101;apply cM;(first
       |exact Qbl (HZ.o.1.below a.o) s.o HZ.o.2.1 E.o (by omega)
       |exact Qbl (HZ.o.1.below a.o.drew) (s.o.below bR.drew) HZ.o.2.1 E.o (by omega))
     rintro e3 w3 ⟨⟨v3,rfl,hv3⟩,d⟩;obtain⟨n3,Q,l3,R,m3,o3,p3,rfl,hv3⟩:=hv3;(first
       |have z:O (Below wr.heap.size wr w3):=Hi (a.o.trans (d.mono a.o.size))
       |have z:O (Below wr.heap.size wr w3):=Hi (a.o.trans (((bR.drew).trans d).mono a.o.size)))
     have be:O (FracV w3 (.agg #[.bool n3,.slice Q l3 R,.slice m3 o3 p3]) (z0.q - p.2.1)):=Hi ⟨n3,Q,l3,R,m3,o3,p3,rfl,hv3⟩;have H:=Hi (HQ.o.below z.o);clear hv3 d t0 t1 t2 d1;obtain⟨t0,t1,t2⟩:=Jb z.o bd B.o C.o D.o;have d1:=ce z.o a4 bc.o;have f0:=H.o.blk.free (X*3);have f1:=H.o.blk.free (X*3+1);have f2:=H.o.blk.free (X*3+2)
     skip)
    |fail))|fail
   all_goals
    have bf:Fits (z0.q - p.2.1) K:=by
     have h1:=HF.o (k+1) X;rw[Qdf HP.o,<-HX.o,agn_x,HX.o,<-an.o.1] at h1;exact h1
    obtain⟨us1,h⟩:=nm (us.set X ⟨.bool n3,.slice Q l3 R,.slice m3 o3 p3,z0.q - p.2.1,K⟩);obtain⟨m,S⟩:=nm (((w3.setCell ⟨g,X*3,none⟩ (.bool n3)).setCell ⟨g,X*3+1,none⟩ (.slice Q l3 R)).setCell ⟨g,X*3+2,none⟩ (.slice m3 o3 p3));have T:O (QBlk m g us1):=Hi (by rw[<-S,<-h];exact Qg1 H.o (by have:=HU.o;omega) be.o bf ag);have I:O (us1.length=N):=Hi (by rw[<-h,List.length_set];exact HU.o);have ad:O (∀(i:Nat) (t:FE),us1[i]?=some t->t.q=(if i=X then z0.q - p.2.1 else agn (vs.take k) i)/\t.k<=K):=Hi (fun i t f=>by
     rw[<-h] at f;by_cases e:i=X
     .
      subst e;rw[List.getElem?_set_self (by have:=HU.o;omega)] at f;obtain rfl:=Option.some.inj f;rw[if_pos rfl];exact⟨rfl,Nat.le_refl _⟩
     .
      rw[List.getElem?_set_ne (Ne.symm e)] at f;rw[if_neg e]
      exact am.o i t f)
    have U:O (Below w.heap.size w m):=Hi (by rw[<-S];exact(((HB.o.trans (z.o.mono HB.o.size)).setCell (p:=⟨g,X*3,none⟩) r _).setCell (p:=⟨g,X*3+1,none⟩) r _).setCell (p:=⟨g,X*3+2,none⟩) r _);obtain⟨b4,b5,bq,ae,d0,d1,d2⟩:=(ah.o.below U.o).load bo.o;cases bq;obtain⟨br,bs⟩:=Ia an.o.1 S;clear bf h S t0 t1 t2 f0 f1 f2 d0 d1 a s H z be;go_wp2_with fail;rw[bs.o];obtain⟨z1,W⟩:∃z1,us1[Y]?=some z1:=⟨us1[Y]'(by have:=I.o;omega),gE (by have:=I.o;omega)⟩;obtain⟨Z,J⟩:=Ia (T.o.row.get W) (ad.o _ _ W);obtain⟨gy,oy,ao,_,t0,t1,t2⟩:=T.o.row.at W;cases ao;simp only[Nat.zero_add] at t0 t1 t2;obtain⟨B,C,D,bg⟩:=Ic t0 t1 t2 d2;have af:=T.o.blk.lt
    obtain⟨ap,E⟩:=Ia (fun u (hu:Below m.heap.size m u)=>of_val ((HG.o.below U.o).below hu) c.o.y c.o.sy) (c.o.y.fits (n:=1048576) (by have:=c.o.sy;simpa using this));have bp:=J.o.2;clear W
    first|(go_region_with (first
     |(
      go_at_call 82;apply cM;apply ap.o;(focus(repeat(first|exact Below.refl _ _|apply Qav|apply Qaw)));rintro e2 w4 ⟨⟨v2,rfl,hv2⟩,b⟩;obtain⟨n2,F,l2,G,m2,o2,p2,rfl,hv2⟩:=hv2;(first
        |have a:O (Below m.heap.size m w4):=Hi b
        |have a:O (Below m.heap.size m w4):=Hi (bR.drew.trans b)
        |have a:O (Below m.heap.size m w4):=Hi (bR.drew.drew.trans b))
      have s:O (FracV w4 (.agg #[.bool n2,.slice F l2 G,.slice m2 o2 p2]) p.2.2):=Hi ⟨n2,F,l2,G,m2,o2,p2,rfl,hv2⟩;clear hv2 b t0 t1 t2 d2;obtain⟨t0,t1,t2⟩:=Jb a.o af B.o C.o D.o;have d2:=ce a.o ae bg.o
      skip)
     |(
      go_at_call 101;apply cM;(first
        |exact Qbl (Z.o.1.below a.o) s.o Z.o.2.1 E.o (by omega)
        |exact Qbl (Z.o.1.below a.o.drew) (s.o.below bR.drew) Z.o.2.1 E.o (by omega))
      rintro e3 w5 ⟨⟨v3,rfl,hv3⟩,d⟩;obtain⟨n5,a5,l5,c5,m5,o5,p5,rfl,hv3⟩:=hv3;(first
        |have L:O (Below m.heap.size m w5):=Hi (a.o.trans (d.mono a.o.size))
        |have L:O (Below m.heap.size m w5):=Hi (a.o.trans (((bR.drew).trans d).mono a.o.size)))
      have bt:O (FracV w5 (.agg #[.bool n5,.slice a5 l5 c5,.slice m5 o5 p5]) (z1.q - p.2.2)):=Hi ⟨n5,a5,l5,c5,m5,o5,p5,rfl,hv3⟩;have aa:=Hi (T.o.below L.o);clear hv3 d t0 t1 t2 d2;obtain⟨t0,t1,t2⟩:=Jb L.o af B.o C.o D.o;have d2:=ce L.o ae bg.o;have f0:=aa.o.blk.free (Y*3);have f1:=aa.o.blk.free (Y*3+1);have f2:=aa.o.blk.free (Y*3+2)
      skip)
     |fail))|fail
    all_goals
     have bh:Fits (z1.q - p.2.2) K:=by
      have h1:=HF.o (k+1) Y;have h2:=J.o.1;rw[if_neg (Ne.symm bb)] at h2;rw[Qdf HP.o,<-HY.o,agn_y,HY.o,<-h2] at h1;exact h1
     have bu:=Hi bh;clear bh t0 t1 t2 f0 f1 f2 d2;go_wp2_with fail;refine⟨⟨k+1,_,by omega,by go_num,by rw[List.length_set];exact I.o,Qg1 aa.o (by have:=I.o;omega) bt.o bu.o ag,fun i t f=>?_,(((U.o.trans (L.o.mono U.o.size)).setCell (p:=⟨g,Y*3,none⟩) r _).setCell (p:=⟨g,Y*3+1,none⟩) r _).setCell (p:=⟨g,Y*3+2,none⟩) r _⟩,?_⟩
     .
      rw[Qdf HP.o];by_cases e:i=Y
      .
       subst e;rw[List.getElem?_set_self (by have:=I.o;omega)] at f;obtain rfl:=Option.some.inj f;have h2:=J.o.1;rw[if_neg (Ne.symm bb)] at h2;refine⟨?_,Nat.le_refl _⟩;rw[<-HY.o,agn_y,HY.o,<-h2]
      .
       rw[List.getElem?_set_ne (Ne.symm e)] at f;obtain⟨h3,h4⟩:=ad.o i t f;refine⟨?_,h4⟩;by_cases e2:i=X
       .
        subst e2;rw[if_pos rfl] at h3;rw[h3,<-HX.o,agn_x,HX.o,br.o]
       . rw[if_neg e2] at h3
         rw[h3,Qlj (by rw[HX.o];exact e2) (by rw[HY.o];exact e)]
     . simp[intOf]
       omega
  .
   have bv:k=A.length:=by omega
   subst bv;go_wp2;go_ret;refine⟨⟨g,N,us,HN.o.symm,rfl,HQ.o,HU.o,fun i t f=>?_⟩,HB.o⟩;have:=am.o i t f;rw[List.take_of_length_le (by have:=ai.o;omega)] at this;exact this
end Go.Proofs.YtppkmifkpjkgpaaGreatDoor
namespace Go.Proofs.YtppkmifkpjkgpaaGreatDoor
open Go
open Go.Proofs.Tryz
set_option linter.unusedSimpArgs false
set_option linter.unusedVariables false
set_option maxHeartbeats 8000000
set_option maxRecDepth 1000000
section
variable {P:Program} {ops:Array Oper} {Q:Exit->Act->World->Prop} {md:Region.Mode} {S:World->Prop} {D:Vy}
def NoneOf(D:Vy)(listed:Array Bool):Prop:=∀d∈ D,listed.getD d true=false
theorem NoneOf.set{a:Array Bool}{j:Nat}(h:NoneOf D a)(f:j ∉ D):NoneOf D (a.setIfInBounds j true):=fun d c=>by
 have b:j≠d:=fun e=>f (e ▸ c)
 rw[_root_.Go.getD_set_ne true b];exact h d c
theorem NoneOf.back{a:Array Bool}{j:Nat}(h:NoneOf D (a.setIfInBounds j true)):j ∉ D/\NoneOf D a:=by
 have f:j ∉ D:=fun b=>by
  have:=h j b;simp at this
 refine⟨f,fun d b=>?_⟩;have c:j≠d:=fun e=>f (e ▸ b)
 have:=h d b;rw[_root_.Go.getD_set_ne true c] at this;exact this
def AnyDs(P:Program)(md:Region.Mode)(ops:Array Oper)(Q:Exit->Act->World->Prop)(S:World->Prop)(D:Vy):Nat->Array Bool->Act->World->Prop
 |0,listed,a,w=>Region.ready md ops listed= []/\Q .normal a w
 |fuel+1,listed,a,w=>(Region.ready md ops listed= []->Q .normal a w)/\∀i∈ Region.ready md ops listed,wpOp P ops Q i (fun a' w'=>(i ∉ D->NoneOf D listed->S w')/\AnyDs P md ops Q S D fuel (listed.setIfInBounds i true) a' w') a w
theorem AnyDs.any:∀(b:Nat) (c:Array Bool) (a:Act) (w:Vz),AnyDs P md ops Q S D b c a w->wpAny P md ops Q b c a w
 |0,_,_,_,h=>h
 |b+1,_,_,_,h=>⟨h.1,fun i d=>wpOp_mono (fun e w' f=>AnyDs.any b _ e w' f.2) (h.2 i d)⟩
theorem Qch{i j:Nat}{a:Array Bool}{g:Oper}(k:i∈ Region.ready md ops a)(b:∀e∈ g.after,Region.binds md e=true->a.getD e.on false=true):∀e∈ g.after,Region.binds md e=true->e.on≠i:=fun e l m d=>by
 have c:=b e l m;have h:=(mem_ready.1 k).1;rw[d] at c;rcases Nat.lt_or_ge i a.size with f|f
 . simp[f] at h c;rw[h] at c;cases c
 . simp[Array.getElem?_eq_none f] at c
theorem AnyDs.first{i:Nat}{u:Oper}{v:Value}(N:ops[i]?=some u)(r:∀(j:Nat) (o:Oper) z b,ops[j]?=some o->o.op≠.select z b)
 (V:∀c a w,Q (.panic c) (a.put u.dst v) w->Q (.panic c) a w) (hk:D.all (fun k=>waits md ops k i)=true):
 ∀(f:Nat) (d:Array Bool) (a:Act) (w:Vz),
  (∀j y,ops[j]?=some y->j≠i->d.getD j true=false->(∀e∈ y.after,Region.binds md e=true->e.on≠i)->u.apart ops y=true)->
  i∈ Region.ready md ops d->YieldsIf P ops S u v a->NoneOf D d->S w->
  AnyDs P md ops Q S D f (d.setIfInBounds i true) (a.put u.dst v) w->AnyDs P md ops Q S D (f+1) d a w:=by
 intro f
 induction f with
 |zero=>
  intro d a w _ n K O A H;refine⟨fun h=>(by rw[h] at n;cases n),fun j L=>?_⟩;by_cases g:j=i
  . subst g;exact K.wpOp N A ⟨fun _ _=>A,H⟩
  .
   have:=ready_mono L g;rw[H.1] at this;cases this
 |succ f W=>
  intro d a w l n K O A H;refine⟨fun h=>(by rw[h] at n;cases n),fun j L=>?_⟩;by_cases g:j=i
  . subst g;exact K.wpOp N A ⟨fun _ _=>A,H⟩
  .
   have X:=H.2 j (ready_mono L g);obtain⟨s,y,p,B⟩:=mem_ready.1 L;have t:=Qch (j:=j) n B;have C:j ∉ D:=fun e=>Qc9 (k:=j) (List.all_eq_true.1 hk j e) p t
   have E:NoneOf D (d.setIfInBounds i true):=O.set (fun e=>by
    obtain⟨_,Y,F,x⟩:=mem_ready.1 n
    exact Qc9 (k:=i) (List.all_eq_true.1 hk i e) F (Qch (j:=i) n x))
   have Z:=wpOp_putIf p (l j y p g s t) (fun z b=>r i u z b N) (fun z b=>r j y z b p) V K X;have q:∀m G,ops[m]?=some G->m≠i->(d.setIfInBounds j true).getD m true=false->
    (∀e∈ G.after,Region.binds md e=true->e.on≠i)->u.apart ops G=true:=fun m G hm R I T=>by
    refine l m G hm R ?_ T;by_cases J:j=m
    . subst J;exact s
    . rw[_root_.Go.getD_set_ne true J] at I;exact I
   refine wpOp_mono (fun a' w' M=>⟨fun U _=>M.2.1 U E,W (d.setIfInBounds j true) a' w' q (ready_mono n (Ne.symm g)) M.1 (O.set C) (M.2.1 C E) ?_⟩) Z;rw[Array.setIfInBounds_comm _ _ g];exact M.2.2
theorem AnyDs.firstP{i:Nat}{q:Oper}{v:Value}(J:ops[i]?=some q)(n:∀(j:Nat) (o:Oper) u b,ops[j]?=some o->o.op≠.select u b)
 (O:∀c a w,Q (.panic c) (a.put q.dst v) w->Q (.panic c) a w) (x:i ∉ D):
 ∀(f:Nat) (d:Array Bool) (a:Act) (w:Vz),
  (∀j t,ops[j]?=some t->j≠i->d.getD j true=false->(∀e∈ t.after,Region.binds md e=true->e.on≠i)->q.apart ops t=true)->
  i∈ Region.ready md ops d->YieldsIf P ops (fun _=>True) q v a->(NoneOf D d->S w)->
  AnyDs P md ops Q S D f (d.setIfInBounds i true) (a.put q.dst v) w->AnyDs P md ops Q S D (f+1) d a w:=by
 intro f
 induction f with
 |zero=>
  intro d a w _ r E K H;refine⟨fun h=>(by rw[h] at r;cases r),fun j F=>?_⟩;by_cases g:j=i
  . subst g;exact E.wpOp J trivial ⟨fun _=>K,H⟩
  .
   have:=ready_mono F g;rw[H.1] at this;cases this
 |succ f R=>
  intro d a w k r E K H;refine⟨fun h=>(by rw[h] at r;cases r),fun j F=>?_⟩;by_cases g:j=i
  . subst g;exact E.wpOp J trivial ⟨fun _=>K,H⟩
  .
   have T:=H.2 j (ready_mono F g);obtain⟨p,t,s,y⟩:=mem_ready.1 F;have z:=Qch (j:=j) r y;have U:=wpOp_putIf s (k j t s g p z) (fun u b=>n i q u b J) (fun u b=>n j t u b s) O E T;have l:∀m A,ops[m]?=some A->m≠i->(d.setIfInBounds j true).getD m true=false->
    (∀e∈ A.after,Region.binds md e=true->e.on≠i)->q.apart ops A=true:=fun m A V L B M=>by
    refine k m A V L ?_ M;by_cases C:j=m
    . subst C;exact p
    . rw[_root_.Go.getD_set_ne true C] at B;exact B
   refine wpOp_mono (fun W w' G=>⟨?_,R (d.setIfInBounds j true) W w' l (ready_mono r (Ne.symm g)) G.1 ?_ ?_⟩) U
   . intro N I
     exact G.2.1 N (I.set x)
   . intro I
     exact G.2.1 I.back.1 (I.back.2.set x)
   . rw[Array.setIfInBounds_comm _ _ g]
     exact G.2.2
theorem Qj1{a:Array Bool}(h:D.all (fun d=>!(a.getD d true))=true):NoneOf D a:=fun d b=>by
 have:=List.all_eq_true.1 h d b
 simpa using this
theorem Qci{a:Array Bool}{d:Nat}(b:D.contains d=true)(h:a.getD d true=true):¬NoneOf D a:=fun c=>by
 have:=c d (by simpa using b);rw[h] at this;cases this
theorem AnyDs.take{i:Nat}{f:Oper}{v:Value}{e:Nat}{b:Array Bool}{a:Act}{w:Vz}(g:ops[i]?=some f)
 (j:Region.noSelect ops=true) (l:Region.free md ops b i=true) (m:(Region.ready md ops b).contains i=true) (hk:D.all (fun k=>waits md ops k i)=true) (n:D.all (fun d=>!(b.getD d true))=true)
 (o:∀c a w,Q (.panic c) (a.put f.dst v) w->Q (.panic c) a w) (p:YieldsIf P ops S f v a) (q:S w)
 (h:AnyDs P md ops Q S D e (b.setIfInBounds i true) (a.put f.dst v) w):AnyDs P md ops Q S D (e+1) b a w:=
 AnyDs.first g (Region.noSelect_spec j) o hk e b a w (Region.free_spec g l) (by simpa using m) p (Qj1 n) q h
theorem AnyDs.takeP{i:Nat}{e:Oper}{v:Value}{d:Nat}{b:Array Bool}{a:Act}{w:Vz}(f:ops[i]?=some e)
 (j:Region.noSelect ops=true) (k:Region.free md ops b i=true) (l:(Region.ready md ops b).contains i=true) (g:D.contains i=false)
 (m:∀c a w,Q (.panic c) (a.put e.dst v) w->Q (.panic c) a w) (n:YieldsIf P ops (fun _=>True) e v a) (o:NoneOf D b->S w)
 (h:AnyDs P md ops Q S D d (b.setIfInBounds i true) (a.put e.dst v) w):AnyDs P md ops Q S D (d+1) b a w:=
 AnyDs.firstP f (Region.noSelect_spec j) m (fun p=>by rw[List.contains_iff_mem.2 p] at g;cases g) d b a w (Region.free_spec f k) (by simpa using l) n o h
def AllDs(P:Program)(md:Region.Mode)(ops:Array Oper)(Q:Exit->Act->World->Prop)(S:World->Prop)(D:Vy)(fuel:Nat)(listed:Array Bool)(a:Act)(w:Vz)(rs:Vy):Prop:=
 ∀i∈ rs,wpOp P ops Q i (fun a' w'=>(i ∉ D->NoneOf D listed->S w')/\AnyDs P md ops Q S D fuel (listed.setIfInBounds i true) a' w') a w
theorem AllDs.nil{c:Nat}{b:Array Bool}{a:Act}{w:Vz}:AllDs P md ops Q S D c b a w []:=fun _ h=>by cases h
theorem AllDs.cons{c:Nat}{b:Array Bool}{a:Act}{w:Vz}{i:Nat}{o:Oper}{rs:Vy}(e:ops[i]?=some o)
 (h:∀K':Act->World->Prop,Shut (∀a w,(i ∉ D->NoneOf D b->S w)->AnyDs P md ops Q S D c (b.setIfInBounds i true) a w->K' a w)->if Region.wanted o (yielded ops a.tmps)=true then Oper.wp P o a w K' Q else K' (a.put o.dst undef) w)
 (f:AllDs P md ops Q S D c b a w rs):AllDs P md ops Q S D c b a w (i :: rs):=fun j d=>by
 rcases List.mem_cons.1 d with rfl|d
 . exact wpOp_step e (fun K' g=>h K' (fun a w k l=>g a w ⟨k,l⟩))
 . exact f j d
theorem AnyDs.ready{rs:Vy}{c:Nat}{b:Array Bool}{a:Act}{w:Vz}(e:Region.ready md ops b=rs)(d:rs≠ [])
 (h:AllDs P md ops Q S D c b a w rs):AnyDs P md ops Q S D (c+1) b a w:=by
 refine⟨(fun f=>by rw[e] at f;exact absurd f d),fun j g=>?_⟩;rw[e] at g;exact h j g
theorem AnyDs.done{b:Array Bool}{a:Act}{w:Vz}(d:Region.ready md ops b= [])(h:Q .normal a w):∀c,AnyDs P md ops Q S D c b a w
 |0=>⟨d,h⟩
 |_+1=>⟨fun _=>h,by rw[d];simp⟩
theorem AnyDs.begin{id:Nat}{a:Act}{w:Vz}(b:P.follows .mixedOrders=true)
 (h:AnyDs P .any ops Q S D ops.size (Array.replicate ops.size false) a w.drew):(Code.region id ops true).wp P Q a w:=
 wp_region_any b (AnyDs.any _ _ _ _ h)
end
section
variable {P:Program} {ops:Array Oper} {Q:Exit->Act->World->Prop} {md:Region.Mode} {S T:World->Prop} {D:Vy}
def AnyE(P:Program)(md:Region.Mode)(ops:Array Oper)(Q:Exit->Act->World->Prop)(S T:World->Prop)(D:Vy):Nat->Array Bool->Act->World->Prop
 |0,listed,a,w=>Region.ready md ops listed= []/\Q .normal a w
 |fuel+1,listed,a,w=>(Region.ready md ops listed= []->Q .normal a w)/\∀i∈ Region.ready md ops listed,wpOp P ops Q i (fun a' w'=>((i ∉ D->NoneOf D listed->S w')/\T w')/\AnyE P md ops Q S T D fuel (listed.setIfInBounds i true) a' w') a w
theorem AnyE.any:∀(b:Nat) (c:Array Bool) (a:Act) (w:Vz),AnyE P md ops Q S T D b c a w->wpAny P md ops Q b c a w
 |0,_,_,_,h=>h
 |b+1,_,_,_,h=>⟨h.1,fun i d=>wpOp_mono (fun e w' f=>AnyE.any b _ e w' f.2) (h.2 i d)⟩
theorem AnyE.first{i:Nat}{u:Oper}{v:Value}(N:ops[i]?=some u)(r:∀(j:Nat) (o:Oper) A b,ops[j]?=some o->o.op≠.select A b)
 (X:∀c a w,Q (.panic c) (a.put u.dst v) w->Q (.panic c) a w) (hk:D.all (fun k=>waits md ops k i)=true):
 ∀(f:Nat) (d:Array Bool) (a:Act) (w:Vz),
  (∀j y,ops[j]?=some y->j≠i->d.getD j true=false->(∀e∈ y.after,Region.binds md e=true->e.on≠i)->u.apart ops y=true)->
  i∈ Region.ready md ops d->YieldsIf P ops S u v a->NoneOf D d->S w->T w->
  AnyE P md ops Q S T D f (d.setIfInBounds i true) (a.put u.dst v) w->AnyE P md ops Q S T D (f+1) d a w:=by
 intro f
 induction f with
 |zero=>
  intro d a w _ n L O B R H;refine⟨fun h=>(by rw[h] at n;cases n),fun j M=>?_⟩;by_cases g:j=i
  . subst g;exact L.wpOp N B ⟨⟨fun _ _=>B,R⟩,H⟩
  .
   have:=ready_mono M g;rw[H.1] at this;cases this
 |succ f Y=>
  intro d a w l n L O B R H;refine⟨fun h=>(by rw[h] at n;cases n),fun j M=>?_⟩;by_cases g:j=i
  . subst g;exact L.wpOp N B ⟨⟨fun _ _=>B,R⟩,H⟩
  .
   have Z:=H.2 j (ready_mono M g);obtain⟨s,y,p,C⟩:=mem_ready.1 M;have t:=Qch (j:=j) n C;have E:j ∉ D:=fun e=>Qc9 (k:=j) (List.all_eq_true.1 hk j e) p t
   have F:NoneOf D (d.setIfInBounds i true):=O.set (fun e=>by
    obtain⟨_,aa,G,x⟩:=mem_ready.1 n
    exact Qc9 (k:=i) (List.all_eq_true.1 hk i e) G (Qch (j:=i) n x))
   have h2:=wpOp_putIf p (l j y p g s t) (fun A b=>r i u A b N) (fun A b=>r j y A b p) X L Z;have q:∀m I,ops[m]?=some I->m≠i->(d.setIfInBounds j true).getD m true=false->
    (∀e∈ I.after,Region.binds md e=true->e.on≠i)->u.apart ops I=true:=fun m I hm U J V=>by
    refine l m I hm U ?_ V;by_cases K:j=m
    . subst K;exact s
    . rw[_root_.Go.getD_set_ne true K] at J;exact J
   refine wpOp_mono (fun a' w' z=>⟨⟨fun W _=>z.2.1.1 W F,z.2.1.2⟩,Y (d.setIfInBounds j true) a' w' q (ready_mono n (Ne.symm g)) z.1 (O.set E) (z.2.1.1 E F) z.2.1.2 ?_⟩) h2;rw[Array.setIfInBounds_comm _ _ g];exact z.2.2
theorem AnyE.firstT{i:Nat}{q:Oper}{v:Value}(K:ops[i]?=some q)(n:∀(j:Nat) (o:Oper) x b,ops[j]?=some o->o.op≠.select x b)
 (R:∀c a w,Q (.panic c) (a.put q.dst v) w->Q (.panic c) a w) (y:i ∉ D):
 ∀(f:Nat) (d:Array Bool) (a:Act) (w:Vz),
  (∀j t,ops[j]?=some t->j≠i->d.getD j true=false->(∀e∈ t.after,Region.binds md e=true->e.on≠i)->q.apart ops t=true)->
  i∈ Region.ready md ops d->YieldsIf P ops T q v a->(NoneOf D d->S w)->T w->
  AnyE P md ops Q S T D f (d.setIfInBounds i true) (a.put q.dst v) w->AnyE P md ops Q S T D (f+1) d a w:=by
 intro f
 induction f with
 |zero=>
  intro d a w _ r G L z H;refine⟨fun h=>(by rw[h] at r;cases r),fun j I=>?_⟩;by_cases g:j=i
  . subst g;exact G.wpOp K z ⟨⟨fun _=>L,z⟩,H⟩
  .
   have:=ready_mono I g;rw[H.1] at this;cases this
 |succ f U=>
  intro d a w k r G L z H;refine⟨fun h=>(by rw[h] at r;cases r),fun j I=>?_⟩;by_cases g:j=i
  . subst g;exact G.wpOp K z ⟨⟨fun _=>L,z⟩,H⟩
  .
   have V:=H.2 j (ready_mono I g);obtain⟨p,t,s,A⟩:=mem_ready.1 I;have B:=Qch (j:=j) r A;have W:=wpOp_putIf s (k j t s g p B) (fun x b=>n i q x b K) (fun x b=>n j t x b s) R G V;have l:∀m C,ops[m]?=some C->m≠i->(d.setIfInBounds j true).getD m true=false->
    (∀e∈ C.after,Region.binds md e=true->e.on≠i)->q.apart ops C=true:=fun m C X M E N=>by
    refine k m C X M ?_ N;by_cases F:j=m
    . subst F;exact p
    . rw[_root_.Go.getD_set_ne true F] at E;exact E
   refine wpOp_mono (fun Y w' u=>⟨⟨?_,u.2.1.2⟩,U (d.setIfInBounds j true) Y w' l (ready_mono r (Ne.symm g)) u.1 ?_ u.2.1.2 ?_⟩) W
   . intro O J
     exact u.2.1.1 O (J.set y)
   . intro J
     exact u.2.1.1 J.back.1 (J.back.2.set y)
   . rw[Array.setIfInBounds_comm _ _ g]
     exact u.2.2
theorem AnyE.take{i:Nat}{f:Oper}{v:Value}{e:Nat}{b:Array Bool}{a:Act}{w:Vz}(g:ops[i]?=some f)
 (j:Region.noSelect ops=true) (l:Region.free md ops b i=true) (m:(Region.ready md ops b).contains i=true) (hk:D.all (fun k=>waits md ops k i)=true) (n:D.all (fun d=>!(b.getD d true))=true)
 (o:∀c a w,Q (.panic c) (a.put f.dst v) w->Q (.panic c) a w) (p:YieldsIf P ops S f v a) (q:S w) (r:T w)
 (h:AnyE P md ops Q S T D e (b.setIfInBounds i true) (a.put f.dst v) w):AnyE P md ops Q S T D (e+1) b a w:=
 AnyE.first g (Region.noSelect_spec j) o hk e b a w (Region.free_spec g l) (by simpa using m) p (Qj1 n) q r h
theorem AnyE.takeT{i:Nat}{e:Oper}{v:Value}{d:Nat}{b:Array Bool}{a:Act}{w:Vz}(f:ops[i]?=some e)
 (j:Region.noSelect ops=true) (k:Region.free md ops b i=true) (l:(Region.ready md ops b).contains i=true) (g:D.contains i=false)
 (m:∀c a w,Q (.panic c) (a.put e.dst v) w->Q (.panic c) a w) (n:YieldsIf P ops T e v a) (o:NoneOf D b->S w) (p:T w)
 (h:AnyE P md ops Q S T D d (b.setIfInBounds i true) (a.put e.dst v) w):AnyE P md ops Q S T D (d+1) b a w:=
 AnyE.firstT f (Region.noSelect_spec j) m (fun q=>by rw[List.contains_iff_mem.2 q] at g;cases g) d b a w (Region.free_spec f k) (by simpa using l) n o p h
theorem AnyE.one{i:Nat}{o:Oper}{c:Nat}{b:Array Bool}{a:Act}{w:Vz}(d:Region.ready md ops b= [i])(g:ops[i]?=some o)
 (h:∀K':Act->World->Prop,Shut (∀a w,((i ∉ D->NoneOf D b->S w)/\T w)->AnyE P md ops Q S T D c (b.setIfInBounds i true) a w->K' a w)->if Region.wanted o (yielded ops a.tmps)=true then Oper.wp P o a w K' Q else K' (a.put o.dst undef) w):AnyE P md ops Q S T D (c+1) b a w:=by
 refine⟨(fun e=>by rw[d] at e;cases e),fun j f=>?_⟩;rw[d] at f;obtain rfl:=List.mem_singleton.1 f;exact wpOp_step g (fun K' k=>h K' (fun a w l m=>k a w ⟨l,m⟩))
theorem AnyE.done{b:Array Bool}{a:Act}{w:Vz}(d:Region.ready md ops b= [])(h:Q .normal a w):∀c,AnyE P md ops Q S T D c b a w
 |0=>⟨d,h⟩
 |_+1=>⟨fun _=>h,by rw[d];simp⟩
theorem AnyE.begin{id:Nat}{a:Act}{w:Vz}(b:P.follows .mixedOrders=true)
 (h:AnyE P .any ops Q S T D ops.size (Array.replicate ops.size false) a w.drew):(Code.region id ops true).wp P Q a w:=
 wp_region_any b (AnyE.any _ _ _ _ h)
end
def Plan(is:Vy)(p:Prop):Prop:=p
theorem Plan.of{p:Prop}(is:Vy)(h:Plan is p):p:=h
theorem Plan.done{p:Prop}(h:p):Plan [] p:=h
section
variable {P:Program} {ops:Array Oper} {Q:Exit->Act->World->Prop} {md:Region.Mode} {S T:World->Prop} {D is:Vy} {i:Nat} {oi:Oper} {v:Value} {fuel:Nat} {listed:Array Bool} {a:Act} {w:Vz}
theorem AnyE.tp(b:ops[i]?=some oi)(d:Region.noSelect ops=true)(e:Region.free md ops listed i=true)(f:(Region.ready md ops listed).contains i=true)(g:D.contains i=false)
 (j:∀c a w,Q (.panic c) (a.put oi.dst v) w->Q (.panic c) a w) (l:NoneOf D listed->S w) (m:T w) (n:YieldsIf P ops T oi v a)
 (h:Plan is (AnyE P md ops Q S T D fuel (listed.setIfInBounds i true) (a.put oi.dst v) w)):Plan (i :: is) (AnyE P md ops Q S T D (fuel+1) listed a w):=
 AnyE.takeT b d e f g j n l m h
theorem AnyE.sp(b:ops[i]?=some oi)(e:Region.noSelect ops=true)(f:Region.free md ops listed i=true)(g:(Region.ready md ops listed).contains i=true)(hk:D.all (fun k=>waits md ops k i)=true)(j:D.all (fun d=>!(listed.getD d true))=true)
 (l:∀c a w,Q (.panic c) (a.put oi.dst v) w->Q (.panic c) a w) (m:S w) (n:T w) (o:YieldsIf P ops S oi v a)
 (h:Plan is (AnyE P md ops Q S T D fuel (listed.setIfInBounds i true) (a.put oi.dst v) w)):Plan (i :: is) (AnyE P md ops Q S T D (fuel+1) listed a w):=
 AnyE.take b e f g hk j l o m n h
theorem AnyE.op{o:Oper}(b:Region.ready md ops listed= [i])(c:ops[i]?=some o)
 (h:∀K':Act->World->Prop,Shut (∀a w,((i ∉ D->NoneOf D listed->S w)/\T w)->Plan is (AnyE P md ops Q S T D fuel (listed.setIfInBounds i true) a w)->K' a w)->if Region.wanted o (yielded ops a.tmps)=true then Oper.wp P o a w K' Q else K' (a.put o.dst undef) w):Plan (i :: is) (AnyE P md ops Q S T D (fuel+1) listed a w):=
 AnyE.one b c h
theorem AnyDs.pp(b:ops[i]?=some oi)(d:Region.noSelect ops=true)(e:Region.free md ops listed i=true)(f:(Region.ready md ops listed).contains i=true)(g:D.contains i=false)
 (j:∀c a w,Q (.panic c) (a.put oi.dst v) w->Q (.panic c) a w) (l:NoneOf D listed->S w) (m:YieldsIf P ops (fun _=>True) oi v a)
 (h:Plan is (AnyDs P md ops Q S D fuel (listed.setIfInBounds i true) (a.put oi.dst v) w)):Plan (i :: is) (AnyDs P md ops Q S D (fuel+1) listed a w):=
 AnyDs.takeP b d e f g j m l h
theorem AnyDs.sp(b:ops[i]?=some oi)(e:Region.noSelect ops=true)(f:Region.free md ops listed i=true)(g:(Region.ready md ops listed).contains i=true)(hk:D.all (fun k=>waits md ops k i)=true)(j:D.all (fun d=>!(listed.getD d true))=true)
 (l:∀c a w,Q (.panic c) (a.put oi.dst v) w->Q (.panic c) a w) (m:S w) (n:YieldsIf P ops S oi v a)
 (h:Plan is (AnyDs P md ops Q S D fuel (listed.setIfInBounds i true) (a.put oi.dst v) w)):Plan (i :: is) (AnyDs P md ops Q S D (fuel+1) listed a w):=
 AnyDs.take b e f g hk j l n m h
variable {k:Nat}
theorem AnyBut.bp(b:ops[i]?=some oi)(d:Region.noSelect ops=true)(e:Region.free md ops listed i=true)(f:(Region.ready md ops listed).contains i=true)(hk:waits md ops k i=true)
 (g:∀c a w,Q (.panic c) (a.put oi.dst v) w->Q (.panic c) a w) (j:S w) (l:YieldsIf P ops S oi v a)
 (h:Plan is (AnyBut P md ops Q S k fuel (listed.setIfInBounds i true) (a.put oi.dst v) w)):Plan (i :: is) (AnyBut P md ops Q S k (fuel+1) listed a w):=
 AnyBut.take b d e f hk g l j h
theorem AnyBut.op{o:Oper}(b:Region.ready md ops listed= [i])(c:ops[i]?=some o)
 (h:∀K':Act->World->Prop,Shut (∀a w,(i≠k->S w)->Plan is (AnyBut P md ops Q S k fuel (listed.setIfInBounds i true) a w)->K' a w)->if Region.wanted o (yielded ops a.tmps)=true then Oper.wp P o a w K' Q else K' (a.put o.dst undef) w):Plan (i :: is) (AnyBut P md ops Q S k (fuel+1) listed a w):=
 AnyBut.one b c h
end
end Go.Proofs.YtppkmifkpjkgpaaGreatDoor
