import Derived.Test.YtfgclhpgdanmfaaGreatDoorS40RegX
namespace Go.Proofs.YtfgclhpgdanmfaaGreatDoor
set_option linter.defProp false
open Go.RowKit
open Go.Proofs.Tryz
set_option linter.unusedSimpArgs false
set_option linter.unusedVariables false
set_option maxHeartbeats 8000000
set_option maxRecDepth 1000000
section
open Go Go.RowKit
section
variable {P:Au} {ops:Af} {Q:Ab} {R:Az}
def Dq(ops:Af)(m:Nat)(U:Vy):Bool:=
 oL ops (m+1) && ((List.range m).all fun j=>U.contains j || (List.range (m+1)).any fun k=>!U.contains k && (jY ops k).contains j) &&
  U.all fun u=>decide (u<m) && match ops[m]? with
   |some o=>o.dst.isNone && match iE ops u with
    |some d=>!(o.looksAt ops).contains d
    |none=>true
   |none=>false
def mL(m:Nat)(U:Vy):List Nat:=(List.range m).filter fun j=>!U.contains j
def uJ(P:Au)(ops:Af)(R:Az)(a0:Act)(w0:Vz)(ds:Ag)(Φ:AW)(u:Nat):Prop:=
 ∃o js,ops[u]?=some o/\oT ops u js=true/\∀w,R w0 w->iL ds Φ w (fun b=>∀K:Ax,Shut (∀v,Φ.getD u td v w->K v w)->if Region.wanted o (yielded ops b.tmps)=true then Oper.wp P o b w (fun a' w'=>a'.defers=b.defers/\K (left o.dst a') w') rQ else K undef w) js a0
def tg.Jz{n:Nat}(F:jK ops n){e:Act}{w0:Vz}{Φ:AW}{L:Vy}{f:Ao}{xs:Av}{a:Act}{w:Vz}(p:e.tmps.size=n)(H:tg R P ops e w0 Φ L f xs a w){i:Nat}{o:Oper}(r:ops[i]?=some o){I:Vy}(s:∀j∈ I,j∈ L)(u:∀j∈ L,∀d,iE ops j=some d->d∈ o.looksAt ops->j∈ I):
 execOp a.eval o=execOp (i8 ops xs I e).eval o/\Region.wanted o (yielded ops a.tmps)=Region.wanted o (yielded ops (i8 ops xs I e).tmps):=by
 have k:∀t,t∈ o.looksAt ops->a.tmps[t]?=(i8 ops xs I e).tmps[t]?:=by
  intro t l;rw[H.act];by_cases m:∃j∈ L,iE ops j=some t
  . obtain⟨j,h,c⟩:=m
    rw[EU F c L e p h,EU F c _ e p (u j h t c l)]
  . rw[Ds L e (fun j h c=>m ⟨j,h,c⟩),Ds _ e (fun j h c=>m ⟨j,s j h,c⟩)]
 constructor
 .
  refine execOp_congr o (fun v b=>F.sel i o v b r) (fun x y=>?_);cases x with
  |tmp t=> have:=k t (iu _ (List.mem_filterMap.2 ⟨.tmp t,by simpa using y,rfl⟩));simp only[Act.eval,dZ,this]
  |_=>rfl
 .
  unfold Region.wanted;cases hg:o.guard with
  |none=>rfl
  |some gw=>
   obtain⟨g,q⟩:=gw;have z:yielded ops a.tmps g=yielded ops (i8 ops xs I e).tmps g:=by
    unfold yielded;cases l:(ops[g]?).bind (·.dst) with
    |none=>rfl
    |some t=> have:=k t (by simp[Oper.looksAt,hg,l]);simp only[Bh,this]
   simp only[z]
def SX(hR:qF R){n:Nat}(F:jK ops n){r:Act}{w0:Vz}{Φ:AW}(X:r.tmps.size=n){Y:Ag}{m:Nat}{o2:Oper}{U:Vy}(E:∀j,j<m->Y j=iE ops j)(hm:Φ.length=m)(hk:m+2=ops.size)(aa:tz R P ops r w0 Y Φ)(G:ops[m+1]?=some o2)(t:∀u∈ U,u<m)(hw:oL ops (m+1)=true)(ab:iE ops m=none)(hU:∀u∈ U,uJ P ops R r w0 Y Φ u){w:Vz}{ys:Av}(hM:iL Y Φ w (fun b=>wz P ops Q o2 (Q .normal) b w) U (i8 ops ys (mL m U) r)):
 ∀(g:Nat)(L:Vy)(c:Ao) (xs:Av) (a:Act),tg R P ops r w0 (Φ++ [fun _ _=>True]) L c xs a w->m∈ L->(∀j∈ mL m U,j∈ L/\xs j=ys j)->L.length+g=ops.size->wpAny P .any ops Q g c a w:=by
 have I:∀{v:Ac} {w':Vz},¬(Φ++ [fun _ _=>True]).getD (m+1) td v w':=fun {v w'} h=>by rw[aC,aO sO]at h;exact h
 have q:∀j,j<m->(Φ++ [fun _ _=>True]).getD j td=Φ.getD j td:=fun j f=>by rw[aC,aC,aR oO]
 have J:∀j,nC R ((Φ++ [fun _ _=>True]).getD j td):=by
  intro j;rcases gS j m with h|h|h
  . rw[q j h]
    exact(aa j _ (by rw[aC,gE oO];rfl)).1
  . subst h;rw[aC,aX oO,hm,fA];exact fun _ _ _ _ _=>trivial
  . rw[aC,aO sO]
    exact fun _ _ _ _ h=>h
 intro g
 induction g with
 |zero=> intro L c xs a H x z hf;have k:=MY L ops.size H.nodup H.lt oO;exact absurd (H.facts _ (k (m+1) oO)) I
 |succ g ih=>
  intro L c xs a H x z hf;refine⟨fun h=>absurd (H.facts _ (H.tJ F h (m+1) oO)) I,fun i hi=>?_⟩;obtain⟨K,D,Z,o,A⟩:=H.ready hi;have M:iE ops i=o.dst:=by unfold iE;rw[A];rfl
  rcases bB i m with h|h
  .
   have ad:i∈ U:=by apply bC;intro hc;exact D (z i (mS.2 ⟨dL.2 h,by simpa using hc⟩)).1
   obtain⟨o',js,O,S,hs⟩:=hU i ad;rw[A]at O;cases O;obtain⟨e1,e2⟩:=H.same F X A D Z S;have s:=(oT.spec A S).1;have B:=iL.jZ (xs:=xs) _ _ (fun j f=>E j (oB (F.low i j (s j f)))) (hs w H.base) (fun j f=>by
    have T:=H.facts j (Z j (s j f));rw[q j (oB (F.low i j (s j f)))]at T
    exact T)
   refine J3 (b:=i8 ops xs js r) (N:=fun v w'=>w'=w/\Φ.getD i td v w) A (fun d ae=>?_) e1 e2 (B (fun v w'=>w'=w/\Φ.getD i td v w) (fun v C=>⟨rfl,C⟩)) ?_
   . rw[J5,X]
     exact F.fits i d (M.trans ae)
   .
    have V:∀v u,(Φ.getD i td v w)->(u=v∨o.dst=none)->wpAny P .any ops Q g (c.setIfInBounds i true) (a.put o.dst u) w:=fun v u C hu=>by
     have H':=H.next hR F X K D Z J (hR.refl w) (v:=v) (by rw[q i h];exact C) M hu;refine ih _ _ _ _ H' (iu _ x) (fun j f=>⟨iu _ (z j f).1,?_⟩) sO;have:j≠i:=fun e=>D (e ▸ (z j f).1)
     simp only[aH this];exact(z j f).2
    rintro v w' (⟨rfl,C⟩|⟨hnone,rfl,C⟩)
    . exact V v v C (.inl rfl)
    . exact V undef v C (.inr hnone)
  .
   have af:i=m+1:=by
    rcases bB m i with B|B
    . omega
    . exact absurd x (by rw[show m=i by omega];exact D)
   subst af;rw[A]at G;cases G;have k:=oL.down hw F Z H.closed;have ah:m+1<=L.length:=by
    have:=(sL (n:=m+1)).length_le_of_subset (l₂:=L) (fun j f=>k j (dL.1 f))
    simpa using this
   have ag:g=0:=oO;subst ag;have eI:i8 ops ys (mL m U) r=i8 ops xs (mL m U) r:=La _ _ (fun j f=>(z j f).2.symm);rw[eI]at hM;have B:=iL.jZ (xs:=xs) U _ (fun j f=>E j (t j f)) hM (fun j f=>by
    have T:=H.facts j (k j (oB (t j f)));rw[q j (t j f)]at T
    exact T)
   rw[<-Lb]at B;have e:i8 ops xs L r=i8 ops xs (mL m U++U) r:=by
    have e1:i8 ops xs L r=i8 ops xs (m :: (mL m U++U)) r:=by
     refine J4 F X (fun j=>⟨fun f=>?_,fun f=>?_⟩)
     . have ai:=H.lt j f;rcases gS j m with y|y|y
       . refine bU _ (bD.2 ?_);by_cases hc:j∈ U
         . exact .inr hc
         . exact .inl (mS.2 ⟨dL.2 y,by simpa using hc⟩)
       . rw[y];exact dT
       . exact absurd f (by rw[show j=m+1 by omega];exact D)
     . rcases aY.1 f with rfl|f
       . exact x
       . rcases bD.1 f with y|y
         . exact(z j y).1
         . exact k j (oB (t j y))
    rw[e1]
    show i8 ops xs (mL m U++U) (r.put (iE ops m) (xs m))=_
    rw[ab];rfl
   rw[<-e,<-H.act]at B;have p:Region.ready .any ops (c.setIfInBounds (m+1) true)= []:=by
    cases hr:Region.ready .any ops (c.setIfInBounds (m+1) true) with
    |nil=>rfl
    |cons j js=>
     obtain⟨W,o',g2,_⟩:=mC.1 (show j∈ Region.ready .any ops (c.setIfInBounds (m+1) true) by rw[hr];exact dT);have f:=(kO.1 g2).1;by_cases he:j=m+1
     . subst he;rw[dZ,jJ (by rw[H.size];exact f)]at W;cases W
     . rw[dZ,l9 (fun h=>he h.symm),H.marks j f]at W;simp only[pM,mo]at W;exact absurd (k j oO) W
   exact De A (fun K' hK=>B K' (fun a' w' hq=>hK a' w' ⟨p,hq⟩))
def lj.Jl(W:qF R){n:Nat}{o:Act}{w0:Vz}{x:Ag}{Φ:AW}{m:Nat}{D E:Oper}(U:Vy)(hm:Φ.length=m)(hk:m+2=ops.size)(r:ops[m]?=some D)(Y:ops[m+1]?=some E)(y:D.dst=none)(Z:Dq ops m U=true)(hU:∀u∈ U,uJ P ops R o w0 x Φ u)(h:∀w,R w0 w->iL x Φ w (fun b=>∀K:AB,Shut (∀w',R w w'->iL x Φ w' (fun z=>wz P ops Q E (Q .normal) z w') U b->K w')->if Region.wanted D (yielded ops b.tmps)=true then Oper.wp P D b w (fun a' w'=>a'.defers=b.defers/\K w') rQ else K w) (mL m U) o):lj R P ops Q m n o w0 x Φ:=fun A F X B=>by
 unfold Dq at Z;simp only[mr,ij,dL,CC,Bn,rW,qf,nk,mo]at Z;obtain⟨⟨G,aa⟩,I⟩:=Z;have J:iE ops m=none:=by unfold iE;rw[r];exact y
 have M:=fun u hu=>(I u hu).1
 refine MX W F X A oO B (fun L c xs a w H O=>?_) (fun i L c xs a w t H hi ak hf=>?_) ops.size [] _ (fun _=>undef) o w0 (tg.begin W) sS
 . have:=H.facts m (O m oO);rw[aC,aO oO]at this;exact this.elim
 .
  obtain⟨ab,ad,C,_⟩:=H.ready hi;have s:∀j∈ L,j<m:=fun j g=>by
   rcases bB j m with p|p
   . exact p
   . have:=H.facts j g;rw[aC,aO oO]at this;exact this.elim
  have ae:i=m:=by
   rcases bB m i with p|p
   . have e:i=m+1:=oO;subst e;exact absurd (s m (oL.down G F C H.closed m oO)) oO
   . omega
  subst ae;have af:∀k j,k+j+1=i->j ∉ U->j∈ L:=by
   intro k
   induction k using Nat.strongRecOn with
   |_ k ih=>
    intro j g l;rcases aa j oO with p|⟨q,hq,ag,hc⟩
    . exact absurd p l
    . have:=F.low q j hc;by_cases ah:q=i
      . subst ah;exact C j hc
      . exact H.closed q (ih (i - q - 1) oO q oO ag) j hc
  have f:∀j∈ mL i U,j∈ L:=fun j g=>by obtain⟨p,h2⟩:=mS.1 g;have:=dL.1 p;exact af (i - j - 1) j oO (sU h2)
  have p:=iL.jZ (xs:=xs) (mL i U) o (fun j g=>A j (dL.1 (mS.1 g).1)) (h w H.base) (fun j g=>H.facts j (f j g));obtain⟨e1,e2⟩:=H.Jz F X r f (fun j g d ai aj=>by
   refine mS.2 ⟨dL.2 (s j g),?_⟩;have l:j ∉ U:=fun l=>by have S:=(I j l).2;rw[r]at S;simp only[mr]at S;have h4:=S.2;rw[ai]at h4;simp only[rW,mo]at h4;exact h4 aj
   simpa using l)
  have T:∀j,nC R (Φ.getD j td):=by
   intro j;rcases bB j Φ.length with h|h
   . exact(B j _ (by rw[aC,gE h];rfl)).1
   . rw[aC,aO h]
     exact fun _ _ _ _ h=>h
  refine J3 (b:=i8 ops xs (mL i U) o) (N:=fun v w'=>R w w'/\iL x Φ w' (fun z=>wz P ops Q E (Q .normal) z w') U (i8 ops xs (mL i U) o)) r (fun d hd=>by rw[y]at hd;cases hd) e1 e2 ?_ ?_
  . have h2:=p (fun w'=>R w w'/\iL x Φ w' (fun z=>wz P ops Q E (Q .normal) z w') U (i8 ops xs (mL i U) o)) (fun w' a b=>⟨a,b⟩)
    exact h2
  .
   have V:∀u w',(R w w'/\iL x Φ w' (fun z=>wz P ops Q E (Q .normal) z w') U (i8 ops xs (mL i U) o))->wpAny P .any ops Q t (c.setIfInBounds i true) (a.put D.dst u) w':=fun u w' ⟨hb,hM⟩=>by
    have Hn:tg R P ops o w0 (Φ++ [fun _ _=>True]) L c xs a w:=⟨H.nodup,H.lt,H.size,H.marks,H.closed,H.act,fun j g=>by
     have S:=H.facts j g;have:=s j g;rw[aC,aR oO,<-aC]
     exact S,H.base⟩
    have H':=Hn.next W F X ab ad C (fun j=>by
     rcases gS j Φ.length with h|h|h
     . rw[aC,aR oO,<-aC]
       exact T j
     . subst h;rw[aC,aX lZ,fA];exact fun _ _ _ _ _=>trivial
     . rw[aC,aO sO]
       exact fun _ _ _ _ h=>h) hb (v:=undef) (by rw[aC,aX oO,hm,fA];trivial) J (u:=u) (.inr rfl)
    have e3:a.put none u=a:=rfl;rw[e3]at H';rw[y,e3];exact SX W F X A hm hk B Y M G J hU hM t _ _ _ _ H' (Mi _ sS) (fun j g=>⟨iu _ (f j g),by
     have:j≠i:=fun e=>oB (s j (f j g))
     simp only[aH this]⟩) sO
   rintro v w' (hv|⟨_,hv⟩)
   . exact V v w' hv
   . exact V v w' hv
end
end
def CQ(t:Vr)(C:Vw)(B:Nat):Fact:=fun v w=>∃b:Nat,v=.pointer (some ⟨b,0,none⟩)/\B<=b/\SB w b t C
structure sI (t tm:Vr) (B:Nat) (xs ys:Vv) (w w':Vz):Prop where
 os:w'.os=w.os
 tape:w'.tape=w.tape
 output:w'.output=w.output
 size:w.heap.size<=w'.heap.size
 block:∀k,k<w.heap.size->(k<B∨(∀C,¬SB w k t C)/\∀C,¬SB w k tm C)->w'.heap[k]?=w.heap[k]?
 moved:∀k C,SB w k tm C->∃C',SB w' k tm C'/\C'.size=C.size
 old:∀k C,SB w k t C->∃C',SB w' k t C'/\C'.size=C.size/\(C.toList.take xs.length=xs->C'.toList.take xs.length=xs)/\(C.toList.take (xs.length+ys.length)=xs++ys->C'.toList.take (xs.length+ys.length)=xs++ys)
section
variable {t tm:Vr} {B:Nat} {xs ys:Vv} {w w':Vz}
def sI.eK(h:Bl w w'):sI t tm B xs ys w w':=
 ⟨h.os,h.tape,h.output,h.size,fun k hk _=>h.block k hk,fun k C hC=>⟨C,hC.below h hC.lt,rfl⟩,fun k C hC=>⟨C,hC.below h hC.lt,rfl,id,id⟩⟩
def sI.ok:qF (sI t tm B xs ys):=by
 refine⟨fun w=>sI.eK bR,fun {u v w} h k=>⟨k.os.trans h.os,k.tape.trans h.tape,k.output.trans h.output,aE h.size k.size,fun i o p=>?_,fun i C hC=>?_,fun i C hC=>?_⟩⟩
 . have q:=h.block i o p;rw[<-q];have c:∀d,(∀C,¬SB u i d C)->∀C,¬SB v i d C:=fun d r C hC=>r C (by unfold SB at hC ⊢;rw[<-q];exact hC)
   exact k.block i (aF o h.size) (p.imp id (fun ⟨a,b⟩=>⟨c _ a,c _ b⟩))
 . obtain⟨e,f,g⟩:=h.moved i C hC;obtain⟨j,l,m⟩:=k.moved i e f;exact⟨j,l,m.trans g⟩
 . obtain⟨e,f,g,s,x⟩:=h.old i C hC;obtain⟨j,l,m,y,z⟩:=k.old i e f;exact⟨j,l,m.trans g,fun n=>y (s n),fun n=>z (x n)⟩
def sI.below(h:sI t tm B xs ys w w')(hB:B<=w.heap.size):Below B w w':=⟨h.os,h.tape,h.output,h.size,fun k hk=>h.block k oO (.inl hk)⟩
def SB.zX{k:Nat}{b t2:Vr}{C D:Vw}(c:SB w k b C)(a:SB w k t2 D):b=t2:=by unfold SB at c a;rw[c]at a;have d:=aD a;injection d
def sI.sb(h:sI t tm B xs ys w w'){k:Nat}{c:Vr}{C:Vw}(a:SB w k c C)(d:c≠t)(b:c≠tm):SB w' k c C:=by have f:=h.block k a.lt (.inr ⟨fun D e=>d (a.zX e),fun D e=>b (a.zX e)⟩);unfold SB at a ⊢;rw[f];exact a
def CQ.mW{c:Vr}{C:Vw}{B':Nat}(d:c≠t)(a:c≠tm):nC (sI t tm B xs ys) (CQ c C B'):=fun _ _ _ hb ⟨b,e,f,g⟩=>⟨b,e,f,hb.sb g d a⟩
def CR(tm:Vr)(n B:Nat):Fact:=fun v w=>∃(b:Nat)(C:Vw),v=.pointer (some ⟨b,0,none⟩)/\B<=b/\SB w b tm C/\C.size=n
def CR.mW{n B':Nat}:nC (sI t tm B xs ys) (CR tm n B'):=fun _ _ _ hb ⟨b,C,e,a,c,d⟩=>by obtain⟨f,g,h⟩:=hb.moved b C c;exact⟨b,f,e,a,g,h.trans d⟩
def sI.iw{k:Nat}{C D:Vw}(a:cE k w w')(c:SB w k tm C)(f:SB w' k tm D)(h:D.size=C.size)(hB:B<=k)(g:t≠tm):sI t tm B xs ys w w':=
 ⟨a.os,a.tape,a.output,a.size,fun i j d=>a.block i j (fun e=>by
   subst e;rcases d with d|⟨_,d⟩
   . omega
   . exact d C c),fun i E b=>by
   by_cases e:i=k
   . subst e;have l:C=E:=by unfold SB at c b;rw[c]at b;have m:=aD b;injection m
     subst l;exact⟨D,f,h⟩
   . exact⟨E,b.only a e,rfl⟩,fun i E b=>⟨E,b.only a (fun e=>g (by subst e;exact b.zX c)),rfl,id,id⟩⟩
end
def Bu(b:Int):B6:=⟨0,b,EF,⟨#[]⟩,⟨#[]⟩,⟨#[]⟩⟩
def yP:List B6:=[Bu 1,Bu 2]
def zI:List H3:=[⟨1,1,⟨#[]⟩⟩,⟨1,2,⟨#[]⟩⟩,⟨2,1,⟨#[]⟩⟩,⟨2,2,⟨#[]⟩⟩]
def Mn:List L3:=[⟨0,EF,⟨#[50]⟩⟩]
def nM:List (Nat × Nat × Rat × Rat):=[(0,1,1,0),(0,2,0,1)]
def mw:List Nat:=[2,3,4,5]
def sw:List (Nat × Rat × Rat):=[(0,1,2)]
def qZ:il (⟨#[]⟩:ByteArray).data.toList 0:=il.empty
def OV:jL mF yP zI:=by
 refine⟨vg.1,?_,?_⟩
 . intro b hb;simp[yP,Bu]at hb;rcases hb with rfl|rfl<;>exact⟨dD,dD,dD,dD⟩
 . intro x a;simp[zI]at a;rcases a with rfl|rfl|rfl|rfl<;>decide
def WT:rZ 1048576 mF yP zI nM mw:=by
 refine⟨dD,dD,dD,rfl,rfl,?_,?_,dD⟩
 .
  intro i b p hb d
  match i,hb,d with
  |0,hb,d=> cases hb;cases d;exact⟨rfl,rfl,dD,_,_,0,0,1,0,rfl,rfl,dD,dD,dD,dD,pU,pU,rL,pU,by decide +kernel,by decide +kernel⟩
  |1,hb,d=> cases hb;cases d;exact⟨rfl,rfl,dD,_,_,0,0,0,1,rfl,rfl,dD,dD,dD,dD,pU,pU,pU,rL,by decide +kernel,by decide +kernel⟩
  |n+2,hb,d=>cases hb
 .
  intro i h r a c
  match i,a,c with
  |0,a,c=> cases a;cases c;exact⟨1,rfl,dD,rfl⟩
  |1,a,c=> cases a;cases c;exact⟨1,rfl,dD,rfl⟩
  |2,a,c=> cases a;cases c;exact⟨2,rfl,dD,rfl⟩
  |3,a,c=> cases a;cases c;exact⟨2,rfl,dD,rfl⟩
  |n+4,a,c=>cases a
def OU:dW mF yP zI 0 0:=by
 refine .inr (.inr ⟨by rintro(h|h|h|h)<;>exact absurd h dD,?_,.inr ⟨?_,rfl,rfl⟩⟩)
 .
  intro i x a
  match i,a with
  |0,a=> cases a;exact .inr ⟨⟨dD,dD⟩,⟨dD,dD⟩,_,_,rfl,rfl,0,0,1,0,1,0,0,pU,pU,rL,pU,rL,qZ,qZ,by decide +kernel⟩
  |1,a=> cases a;exact .inr ⟨⟨dD,dD⟩,⟨dD,dD⟩,_,_,rfl,rfl,0,0,0,1,1,0,0,pU,pU,pU,rL,rL,qZ,qZ,by decide +kernel⟩
  |n+2,a=>cases a
 .
  intro i x a
  match i,a with
  |0,a=>cases a;decide
  |1,a=>cases a;decide
  |2,a=>cases a;decide
  |3,a=>cases a;decide
  |n+4,a=>cases a
def WS:∀(i:Nat)(l:L3)(p:Aw),Mn[i]?=some l->sw[i]?=some p->wH 3 l p:=by
 intro i l p hl a
 match i,hl,a with
 |0,hl,a=> cases hl;cases a;exact⟨rfl,dD,rL,Gq,dD,dD⟩
 |n+1,hl,a=>cases hl
def I0(i:Nat):pJ sw i=if i=0 then -1 else if i=1 then -2 else 0:=by
 have e:pJ sw=ng (fun _=>0) (0,1,2):=rfl;rw[e];by_cases a:i=0
 . subst a;rw[aN rfl];decide +kernel
 .
  by_cases b:i=1
  . subst b;rw[aH dD,aN rfl];decide +kernel
  . rw[aH a,aH b,JQ (sU a) (sU b)]
def WR{b:Nat}:Wh 1 (b+1) (-2):=⟨-2,by decide +kernel,by rw[eG];have:0<2 ^ b:=gU dD;omega⟩
def WQ(b:Nat):qR 1 (b+1) 1 (b+1) nM yP.length zI.length (fun _=>1) (fun _=>0) (fun _=>0) (pJ sw):=by
 refine⟨⟨dD,rj,fun p a=>?_⟩,dD,rj,fun i _=>⟨ES (.inr (.inl rfl)),ES (.inl rfl)⟩,fun i _=>ES (.inl rfl),fun i=>?_⟩
 . simp only[nM,aY,dI,ji]at a
   rcases a with rfl|rfl<;>exact⟨ES (by decide +kernel),ES (by decide +kernel)⟩
 .
  rw[I0]
  split
  . exact ES (.inr (.inr rfl))
  . split
    . exact WR
    . exact ES (.inl rfl)
def WP:∀k i,Fits (pJ (sw.take k) i) 10:=fun k i=>by
 match k with
 |0=>exact nr.mono dD
 |k+1=>
  have e:sw.take (k+1)=sw:=by simp[sw]
  rw[e,I0]
  split
  . exact⟨by decide +kernel,by decide +kernel⟩
  . split
    . exact⟨by decide +kernel,by decide +kernel⟩
    . exact nr.mono dD
def WO(m:cW):Giv.Settles 6 2 (dP nM 2 mw) (fun _=>1) (fun _=>0) (hO mw) (jC mw (fun _=>0) 4) (pJ sw) m↔(m 0=1/\m 1=2/\m 2=0/\m 3=0/\m 4=0/\m 5=0):=by
 have f0:hO mw 0=true:=dD;have f1:hO mw 1=true:=dD;have f2:hO mw 2=false:=dD;have f3:hO mw 3=false:=dD;have f4:hO mw 4=false:=dD;have f5:hO mw 5=false:=dD;have y:=fun w=>by
  have l:∀k,jC mw (fun _=>0) k w=0:=fun k=>by
   induction k with
   |zero=>rfl
   |succ k G=>
    unfold jC
    split
    . rfl
    . exact G
  exact l 4
 have b:dP nM 2 mw 0 0=1:=by decide +kernel
 have c:dP nM 2 mw 1 0=0:=by decide +kernel
 have o:dP nM 2 mw 2 0= -1:=by decide +kernel
 have p:dP nM 2 mw 3 0=0:=by decide +kernel
 have q:dP nM 2 mw 4 0=0:=by decide +kernel
 have r:dP nM 2 mw 5 0=0:=by decide +kernel
 have d:dP nM 2 mw 0 1=0:=by decide +kernel
 have e:dP nM 2 mw 1 1=1:=by decide +kernel
 have s:dP nM 2 mw 2 1=0:=by decide +kernel
 have t:dP nM 2 mw 3 1=0:=by decide +kernel
 have u:dP nM 2 mw 4 1=0:=by decide +kernel
 have v:dP nM 2 mw 5 1= -1:=by decide +kernel
 have z:Giv.sOf 6 (dP nM 2 mw) m 0= -(m 0)+m 2:=by simp only[Giv.sOf,dot,b,c,o,p,q,r];grind
 have A:Giv.sOf 6 (dP nM 2 mw) m 1= -(m 1)+m 5:=by simp only[Giv.sOf,dot,d,e,s,t,u,v];grind
 have B:Giv.putF 2 (dP nM 2 mw) (Giv.tOf 6 (dP nM 2 mw) (fun _=>1) (fun _=>0) m) 0= -(m 0)+m 2:=by simp only[Giv.putF,Giv.tOf,dot,b,d,z,A];grind
 have C:Giv.putF 2 (dP nM 2 mw) (Giv.tOf 6 (dP nM 2 mw) (fun _=>1) (fun _=>0) m) 1= -(m 1)+m 5:=by simp only[Giv.putF,Giv.tOf,dot,c,e,z,A];grind
 have D:pJ sw 0= -1:=by rw[I0];rfl
 have E:pJ sw 1= -2:=by rw[I0];rfl
 constructor
 . intro⟨h,F⟩;have x:=F 0 dD f0;have k1:=F 1 dD f1;have k2:=h 2 dD f2;have i:=h 3 dD f3;have j:=h 4 dD f4;have f:=h 5 dD f5;rw[B,D]at x;rw[C,E]at k1;rw[y]at k2 i j f;exact⟨by grind,by grind,k2,i,j,f⟩
 .
  intro⟨x,k1,k2,i,j,f⟩;refine⟨fun w g a=>?_,fun w g a=>?_⟩
  .
   rw[y]
   match w,g,a with
   |0,_,a=>rw[f0]at a;cases a
   |1,_,a=>rw[f1]at a;cases a
   |2,_,_=>exact k2
   |3,_,_=>exact i
   |4,_,_=>exact j
   |5,_,_=>exact f
   |n+6,g,_=>omega
  .
   match w,g,a with
   |0,_,_=>rw[B,D,x,k2];decide +kernel
   |1,_,_=>rw[C,E,k1,f];decide +kernel
   |2,_,a=>rw[f2]at a;cases a
   |3,_,a=>rw[f3]at a;cases a
   |4,_,a=>rw[f4]at a;cases a
   |5,_,a=>rw[f5]at a;cases a
   |n+6,g,_=>omega
def QD:iK (⟨#[50]⟩:ByteArray).data.toList 2:=⟨[50],⟨[50],.inr ⟨dD,[2],⟨fun d a=>by simp at a;omega,.inr sS,by simp[val]⟩,dD⟩,dD⟩,.inl ⟨dD,rfl⟩⟩
def Gn:iK (⟨#[45,50]⟩:ByteArray).data.toList (-2):=⟨[45,50],⟨[50],.inr ⟨dD,[2],⟨fun d a=>by simp at a;omega,.inr sS,by simp[val]⟩,dD⟩,dD⟩,.inl ⟨dD,rfl⟩⟩
def JJ:iK (⟨#[53,47,50]⟩:ByteArray).data.toList (5 / 2):=by
 have b:(5 / 2:Rat).num=5:=kK;have a:(5 / 2:Rat).den=2:=kK;refine⟨[53],?_,.inr ⟨by rw[a];decide,[50],?_,rfl⟩⟩
 . rw[b]
   exact⟨[53],.inr ⟨dD,[5],⟨by simp[Small],by simp[Trim],by simp[val]⟩,dD⟩,dD⟩
 . rw[a]
   exact .inr ⟨dD,[2],⟨by simp[Small],by simp[Trim],by simp[val]⟩,dD⟩
def GO{s t:Vs}{q:Rat}(h:iK s.data.toList q)(k:iK t.data.toList q):s=t:=by
 have:=h.inj k;cases s;cases t
 congr 1
 exact Array.toList_inj.1 this
theorem WN{w w':Vz}{e:As}{u:Nat}(h:pE w 3 2 4 u nM mw (fun _=>1) (fun _=>0) (fun _=>0) (pJ sw) e w'):
 ∃(j k n:Nat)(C:Vw),e=.returned (.tuple #[.agg #[.slice (some ⟨j,0,none⟩) 3 3,.slice (some ⟨k,0,none⟩) 2 2,.slice (some ⟨n,0,none⟩) 4 4],.agg #[.int .i64 0,.int .i64 0]])/\
  SB w' j 34 C/\C[0]?=some (.string ⟨#[49]⟩)/\C[1]?=some (.string ⟨#[50]⟩)/\SB w' k 32 (iq [⟨#[45,49]⟩,⟨#[45,50]⟩]).toArray/\Below w.heap.size w w':=by
 have b:=fun m=>WO m
 obtain⟨h|h|⟨j,k,n,v,x,J,m,t,rfl,hl,f,g,d,a,_,_,p,i,_⟩,hb⟩:=h
 . exact absurd ((b (vec [1,2,0,0,0,0])).2 (by decide +kernel)) (h.2 _)
 .
  obtain⟨_,m,y,z,A,r,K,c⟩:=h;obtain⟨l,x1,x2,x3,q,o⟩:=(b m).1 z;obtain⟨B,y1,y2,y3,D,E⟩:=(b y).1 A
  exfalso
  have e:r=0∨r=1∨r=2∨r=3∨r=4∨r=5:=oO;rcases e with rfl|rfl|rfl|rfl|rfl|rfl
  . exact c (l.trans B.symm)
  . exact c (x1.trans y1.symm)
  . exact c (x2.trans y2.symm)
  . exact c (x3.trans y3.symm)
  . exact c (q.trans D.symm)
  . exact c (o.trans E.symm)
 .
  obtain⟨l,x1,x2,x3,q,o⟩:=(b m).1 i;have t0:t 0= -1:=by
   rw[p]
   show (1:Rat)*((1:Rat)*(m 2 - m 0)+0*(m 3 - m 1) - 0)= -1
   rw[l,x2];grind
  have t1:t 1= -2:=by
   rw[p]
   show (1:Rat)*((0:Rat)*(m 4 - m 0)+1*(m 5 - m 1) - 0)= -2
   rw[x1,o];grind
  match v,hl,g,f with
  | [s0,s1,s2],_,g,f=>
    obtain⟨s,k1⟩:=g 0 s0 rfl;rw[show 2*0=0 from rfl,l]at s;rw[show 2*0+1=1 from rfl,x1]at k1;have F:=GO s QE;have G:=GO k1 QD;refine⟨j,k,n,_,rfl,f,?_,?_,?_,hb⟩
    . simp[S2.cells,F]
    . simp[S2.cells,G]
    . match x,a,d with
      | [b0,b1],a,d=> have H:=GO (t0 ▸ a.2 0 b0 rfl) Mm;have I:=GO (t1 ▸ a.2 1 b1 rfl) Gn;rw[H,I]at d;exact d
      | [],a,_=>exact absurd a.1 dD
      | [_],a,_=>exact absurd a.1 sS
      |_ :: _ :: _ :: _,a,_=>exact absurd a.1 sS
end Go.Proofs.YtfgclhpgdanmfaaGreatDoor
