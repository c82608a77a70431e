import Derived.Test.YtfgclhpgdanmfaaGreatDoorS00Mem
import Derived.Tactics
import Derived.Deep.RegionHeld3
namespace Go.Proofs.YtfgclhpgdanmfaaGreatDoor
set_option linter.defProp false
open Go.RowKit
open Go.Proofs.Tryz
set_option linter.unusedSimpArgs false
set_option linter.unusedVariables false
set_option maxHeartbeats 8000000
set_option maxRecDepth 1000000
section
open Go Go.RowKit
abbrev Fact:=Value->World->Prop
abbrev AW:=List Fact
def td:Fact:=fun _ _=>False
def Is(c:Ac):Fact:=fun v _=>v=c
def mP(φ:Fact):Prop:=∀v w w',Below w.heap.size w w'->φ v w->φ v w'
def sR{c:Ac}{w:Vz}{p:Ay}:(∀v,Is c v w->p v)↔p c:=⟨fun h=>h c rfl,fun h v e=>e ▸ h⟩
def Is.eL(c:Ac):mP (Is c):=fun _ _ _ _ h=>h
def iE(ops:Af)(j:Nat):Option Tmp:=(ops[j]?).bind (·.dst)
def uh(ops:Af)(m:Nat)(ds:Ag):Bool:=(List.range m).all fun j=>iE ops j == ds j
def jY(ops:Af)(i:Nat):List Nat:=match ops[i]? with
 |some o=>(o.after.toList.filter (Region.binds .any)).map (·.on)
 |none=>[]
def M5{ops:Af}{i j:Nat}{o:Oper}(d:ops[i]?=some o):j∈ jY ops i↔∃e∈ o.after,Region.binds .any e=true/\e.on=j:=by
 unfold jY;rw[d];simp only[bZ,mS,Array.mem_toList_iff];constructor
 . rintro⟨e,⟨a,b⟩,c⟩;exact⟨e,a,b,c⟩
 . rintro⟨e,a,b,c⟩;exact⟨e,⟨a,b⟩,c⟩
def uL(ops:Af)(n:Nat):Bool:=
 Region.noSelect ops && (List.range ops.size).all fun i=>match ops[i]? with
  |none=>false
  |some o=>(jY ops i).all (fun j=>decide (j<i)) && (match o.dst with|some d=>decide (d<n)|none=>true) &&
   (List.range ops.size).all fun j=>j == i || match iE ops j with
     |none=>true
     |some d=>!(o.dst == some d)
def oT(ops:Af)(i:Nat)(js:Vy):Bool:=match ops[i]? with
 |none=>false
 |some o=>js.all (fun j=>(jY ops i).contains j) && (List.range ops.size).all fun j=>j == i || js.contains j || (jY ops j).contains i || match iE ops j with
  |none=>true
  |some d=>!(o.looksAt ops).contains d
def oT.spec{ops:Af}{i:Nat}{c:Vy}{o:Oper}(l:ops[i]?=some o)(h:oT ops i c=true):(∀j∈ c,j∈ jY ops i)/\∀j d,i≠j->iE ops j=some d->d∈ o.looksAt ops->j∈ c∨i∈ jY ops j:=by
 unfold oT at h;rw[l]at h;simp only[mr,ij,dL,qf,nk]at h;refine⟨h.1,fun j d e b m=>?_⟩;have f:j<ops.size:=by
  unfold iE at b;rcases bB j ops.size with g|g
  . exact g
  . rw[dX g]at b;cases b
 have k:=h.2 j f;rw[b]at k;simp only[CC,mK,gH e,false_or,rW,mo,nk]at k;rcases k with (a|a)|a
 . exact .inl a
 . exact .inr a
 . exact absurd m a
structure jK (ops:Af) (n:Nat):Prop where
 sel:∀(j:Nat)(o:Oper) cs b,ops[j]?=some o->o.op≠.select cs b
 low:∀i j,j∈ jY ops i->j<i
 fits:∀i d,iE ops i=some d->d<n
 one:∀i j d,iE ops i=some d->iE ops j=some d->i=j
def S3{ops:Af}{j d:Nat}(h:iE ops j=some d):j<ops.size:=by
 unfold iE at h;rcases bB j ops.size with a|a
 . exact a
 . rw[dX a]at h;cases h
def jK.of{ops:Af}{n:Nat}(h:uL ops n=true):jK ops n:=by
 unfold uL at h;simp only[mr,ij,dL]at h;obtain⟨r,h⟩:=h;have f:∀i o,ops[i]?=some o->(∀j∈ jY ops i,j<i)/\(∀d,o.dst=some d->d<n)/\∀j d,j≠i->iE ops j=some d->o.dst≠some d:=by
  intro i o b;have k:=(kO.1 b).1;have l:=h i k;rw[b]at l;simp only[mr,ij,nk,dL]at l;obtain⟨⟨s,p⟩,t⟩:=l;refine⟨s,?_,?_⟩
  . intro d c;rw[c]at p;simpa using p
  . intro j d e c;have q:=t j (S3 c);rw[c]at q
    simpa only[CC,mK,e,false_or,rW,aJ] using q
 have a:∀i d,iE ops i=some d->∃o,ops[i]?=some o/\o.dst=some d:=by
  intro i d c;unfold iE at c;cases b:ops[i]? with
  |none=>rw[b]at c;cases c
  |some o=>rw[b]at c;exact⟨o,rfl,c⟩
 refine⟨l8 r,?_,?_,?_⟩
 .
  intro i j e;cases b:ops[i]? with
  |none=>unfold jY at e;rw[b]at e;cases e
  |some o=>exact(f i o b).1 j e
 . intro i d c;obtain⟨o,b,m⟩:=a i d c;exact(f i o b).2.1 d m
 .
  intro i j d k e;obtain⟨o,b,m⟩:=a i d k;by_cases g:j=i
  . exact g.symm
  . exact absurd m ((f i o b).2.2 j d g e)
def i8(ops:Af)(xs:Av):List Nat->Act->Act
 | [],a=>a
 |j :: js,a=>i8 ops xs js (a.put (iE ops j) (xs j))
theorem Lb{ops:Af}{xs:Av}:∀(L M:Vy)(a:Act),i8 ops xs (L++M) a=i8 ops xs M (i8 ops xs L a)
 | [],_,_=>rfl
 |j :: L,M,a=>Lb L M _
theorem La{ops:Af}{xs b:Av}:∀(L:Vy)(a:Act),(∀j∈ L,xs j=b j)->i8 ops xs L a=i8 ops b L a
 | [],_,_=>rfl
 |j :: L,a,h=>by unfold i8;rw[h j (dT)];exact La L _ (fun k hk=>h k (bU _ hk))
def M4(a:Act)(d:AQ)(v:Ac):(a.put d v).defers=a.defers:=by cases d<;>rfl
def M3(a:Act)(d:AQ)(v:Ac):(a.put d v).tmps.size=a.tmps.size:=by cases d<;>simp[Act.put]
theorem KZ{ops:Af}{xs:Av}:∀(L:Vy)(a:Act),(i8 ops xs L a).defers=a.defers
 | [],_=>rfl
 |j :: L,a=>by unfold i8;rw[KZ L,M4]
theorem J5{ops:Af}{xs:Av}:∀(L:Vy)(a:Act),(i8 ops xs L a).tmps.size=a.tmps.size
 | [],_=>rfl
 |j :: L,a=>by unfold i8;rw[J5 L,M3]
def SZ(a:Act){d:AQ}{t:Nat}(v:Ac)(h:d≠some t):(a.put d v).tmps[t]?=a.tmps[t]?:=by
 cases d with
 |none=>rfl
 |some e=>simp only[Act.put];exact l9 (fun b=>h (by rw[b]))
def MZ(a:Act){t:Nat}(v:Ac)(h:t<a.tmps.size):(a.put (some t) v).tmps[t]?=some v:=by simp[Act.put,jJ h]
theorem Ds{ops:Af}{xs:Av}{t:Nat}:∀(L:Vy)(a:Act),(∀j∈ L,iE ops j≠some t)->(i8 ops xs L a).tmps[t]?=a.tmps[t]?
 | [],_,_=>rfl
 |j :: L,a,h=>by unfold i8;rw[Ds L _ (fun k hk=>h k (bU _ hk)),SZ _ _ (h j dT)]
theorem EU{ops:Af}{n:Nat}(F:jK ops n){xs:Av}{t j:Nat}(b:iE ops j=some t):∀(L:Vy)(a:Act),a.tmps.size=n->j∈ L->(i8 ops xs L a).tmps[t]?=some (xs j)
 | [],_,_,h=>by cases h
 |k :: L,a,hn,h=>by
  unfold i8;by_cases c:j∈ L
  . exact EU F b L _ (by rw[M3];exact hn) c
  .
   rcases aY.1 h with rfl|d
   . rw[Ds L _ (fun m e f=>c (by rw[F.one _ _ _ b f];exact e)),b]
     exact MZ _ _ (by rw[hn];exact F.fits _ _ b)
   . exact absurd d c
def J4{ops:Af}{n:Nat}(F:jK ops n){xs:Av}{L M:Vy}{a:Act}(g:a.tmps.size=n)(h:∀j,j∈ L↔j∈ M):i8 ops xs L a=i8 ops xs M a:=by
 have e:(i8 ops xs L a).tmps=(i8 ops xs M a).tmps:=by
  apply oF;intro t;by_cases f:∃j∈ L,iE ops j=some t
  . obtain⟨j,b,c⟩:=f
    rw[EU F c L a g b,EU F c M a g ((h j).1 b)]
  . rw[Ds L a (fun j b c=>f ⟨j,b,c⟩),Ds M a (fun j b c=>f ⟨j,(h j).2 b,c⟩)]
 have d:(i8 ops xs L a).defers=(i8 ops xs M a).defers:=by rw[KZ,KZ]
 revert e d;generalize i8 ops xs L a=p;generalize i8 ops xs M a=q;intro e d;cases p;cases q;simp only at e d;rw[e,d]
section
variable {P:Au} {ops:Af} {Q:Ab}
def left(d:AQ)(a:Act):Value:=match d with
 |some t=>a.tmps.getD t undef
 |none=>undef
@[go_sem] theorem Zc(t:Tmp)(a:Act):left (some t) a=a.tmps.getD t undef:=rfl
@[go_sem] theorem Zb(a:Act):left none a=undef:=rfl
def rQ:Exit->Act->World->Prop:=fun _ _ _=>False
def J3{i:Nat}{o:Oper}{a b:Act}{w:Vz}{K:Ar}{N:Ax}(t:ops[i]?=some o)(y:∀d,o.dst=some d->d<b.tmps.size)(z:execOp a.eval o=execOp b.eval o)(A:Region.wanted o (yielded ops a.tmps)=Region.wanted o (yielded ops b.tmps))(h:if Region.wanted o (yielded ops b.tmps)=true then Oper.wp P o b w (fun s w'=>s.defers=b.defers/\N (left o.dst s) w') rQ else N undef w)(p:∀v w',N v w'∨(o.dst=none/\N undef w')->K (a.put o.dst v) w'):wpOp P ops Q i K a w:=by
 have B:∀v,o.dst=none/\left o.dst (b.put o.dst v)=undef∨left o.dst (b.put o.dst v)=v:=by
  intro v;cases hdd:o.dst with
  |none=>exact .inl ⟨rfl,rfl⟩
  |some d=> refine .inr ?_;have:=MZ b v (y d hdd);simp only[left,dZ,this,pM]
 have j:∀v w',N (left o.dst (b.put o.dst v)) w'->K (a.put o.dst v) w':=by
  intro v w' m;rcases B v with ⟨C,q⟩|q
  . rw[q]at m;exact p v w' (.inr ⟨C,m⟩)
  . rw[q]at m;exact p v w' (.inl m)
 unfold wpOp;simp only[t];rw[A];by_cases l:Region.wanted o (yielded ops b.tmps)=true
 .
  rw[aN l]at h ⊢;refine .inl ?_;unfold Oper.wp at h ⊢;rw[z];generalize (execOp b.eval o).run P w=r at*;cases r with
  |ok n w'=>
   cases n<;>simp only[Oper.upon]at h ⊢
   case value u=>exact j u w' h.2
   case skip=>exact j undef w' h.2
   case defer d=> have:=h.1;rw[M4]at this;have:=congrArg List.length this;simp at this
   case enter f args=>
    refine Calls.mono h fun e k g=>?_
    cases e with
    |returned u=>exact j u k g.2
    |panicked c=>exact g.elim
    |outgrown=>obtain⟨_,_,D⟩:=g;exact D.elim
   case row row args=>exact Rows.mono h fun u k g=>j u k g.2
  |halt x w'=>
   cases x<;>simp only[Oper.upon]at h ⊢
   case panic u=>exact h.elim
 . rw[aH l]at h ⊢
   exact p undef w (.inl h)
def iL(ds:Ag)(Φ:List Fact)(w:Vz)(N:Act->Prop):List Nat->Act->Prop
 | [],a=>N a
 |j :: js,a=>∀v,Φ.getD j td v w->iL ds Φ w N js (a.put (ds j) v)
theorem iL.jZ{c:Ag}{Φ:List Fact}{w:Vz}{N:Act->Prop}{xs:Av}:∀(b:Vy)(a:Act),(∀j∈ b,c j=iE ops j)->iL c Φ w N b a->(∀j∈ b,Φ.getD j td (xs j) w)->N (i8 ops xs b a)
 | [],_,_,h,_=>h
 |j :: b,a,hd,h,hx=>by have d:=h (xs j) (hx j dT);rw[hd j dT]at d;exact iL.jZ b _ (fun k hk=>hd k (bU _ hk)) d (fun k hk=>hx k (bU _ hk))
theorem iL.A1{c:Ag}{Φ Ψ:List Fact}{w:Vz}{N:Act->Prop}:∀(b:Vy)(a:Act),(∀j∈ b,Φ.getD j td=Ψ.getD j td)->iL c Φ w N b a->iL c Ψ w N b a
 | [],_,_,h=>h
 |j :: b,a,he,h=>fun v d=>iL.A1 b _ (fun k hk=>he k (bU _ hk)) (h v (by rw[he j dT];exact d))
end
structure qF (R:Az):Prop where
 refl:∀w,R w w
 trans:∀{u v w},R u v->R v w->R u w
def nC(R:Az)(φ:Fact):Prop:=∀v w w',R w w'->φ v w->φ v w'
def Is.mW(R:Az)(c:Ac):nC R (Is c):=fun _ _ _ _ h=>h
def BD(R:Az)(P:Au)(ops:Af)(a0:Act)(w0:Vz)(ds:Ag)(Φ:List Fact)(o:Oper)(js:Vy)(φ:Fact):Prop:=
 ∀w,R w0 w->iL ds Φ w (fun b=>∀K:Ax,Shut (∀v w',R w w'->φ v w'->K v w')->if Region.wanted o (yielded ops b.tmps)=true then Oper.wp P o b w (fun a' w'=>a'.defers=b.defers/\K (left o.dst a') w') rQ else K undef w) js a0
def tz(R:Az)(P:Au)(ops:Af)(a0:Act)(w0:Vz)(ds:Ag)(Φ:List Fact):Prop:=
 ∀i φ,Φ[i]?=some φ->nC R φ/\∃o js,ops[i]?=some o/\oT ops i js=true/\BD R P ops a0 w0 ds Φ o js φ
def lj(R:Az)(P:Au)(ops:Af)(Q:Ab)(m n:Nat)(a0:Act)(w0:Vz)(ds:Ag)(Φ:List Fact):Prop:=
 (∀j,j<m->ds j=iE ops j)->jK ops n->a0.tmps.size=n->tz R P ops a0 w0 ds Φ->wpAny P .any ops Q ops.size (Array.replicate ops.size false) a0 w0
structure tg (R:Az) (P:Au) (ops:Af) (a0:Act) (w0:Vz) (Φ:List Fact) (L:Vy) (listed:Ao) (xs:Av) (a:Act) (w:Vz):Prop where
 nodup:L.Nodup
 lt:∀j∈ L,j<ops.size
 size:listed.size=ops.size
 marks:∀j,j<ops.size->listed[j]?=some (decide (j∈ L))
 closed:∀i∈ L,∀j∈ jY ops i,j∈ L
 act:a=i8 ops xs L a0
 facts:∀j∈ L,Φ.getD j td (xs j) w
 base:R w0 w
def SY:∀(L:Vy)(n:Nat),L.Nodup->(∀j∈ L,j<n)->L.length<=n:=by
 intro L n a hl;have:=a.length_le_of_subset (l₂:=List.range n) (fun j b=>dL.2 (hl j b))
 simpa using this
def MY(L:Vy)(n:Nat)(b:L.Nodup)(hl:∀j∈ L,j<n)(d:n<=L.length):∀j,j<n->j∈ L:=by
 intro j c;by_cases a:j∈ L
 . exact a
 .
  have:=SY (j :: L) n (List.nodup_cons.2 ⟨a,b⟩) (fun k hk=>by
   rcases aY.1 hk with rfl|h
   . exact c
   . exact hl k h)
  simp at this;omega
section
variable {P:Au} {ops:Af} {Q:Ab} {R:Az}
def lj.begin{id n:Nat}{b:Act}{w:Vz}(m:Nat)(d:Ag)(e:P.follows .mixedOrders=true)(a:uh ops m d=true)(c:uL ops n=true)(f:b.tmps.size=n)(h:lj R P ops Q m n b w.drew d []):(Code.region id ops true).wp P Q b w:=
 yH e (h (fun j g=>by
  unfold uh at a;simp only[ij,dL,mK]at a
  exact(a j g).symm) (jK.of c) f (fun i φ k=>by cases k))
def lj.step{m n:Nat}{c:Act}{w0:Vz}{d:Ag}{Φ:List Fact}{i:Nat}{o:Oper}{φ:Fact}(e:Vy)(v:Φ.length=i)(r:ops[i]?=some o)(b:oT ops i e=true)(x:nC R φ)(h:BD R P ops c w0 d Φ o e φ)(y:lj R P ops Q m n c w0 d (Φ++ [φ])):lj R P ops Q m n c w0 d Φ:=fun f F z g=>by
 refine y f F z (fun k ψ hk=>?_);have A:k<Φ.length+1:=by
  have:=(gZ hk).1
  simpa using this
 have a:∀k,k<=Φ.length->∀j∈ jY ops k,Φ.getD j td=(Φ++ [φ]).getD j td:=fun k hk j b=>by have:=F.low k j b;rw[aC,aC,aR oO]
 rcases bB k Φ.length with s|s
 . rw[aR s]at hk;obtain⟨B,C,l,t,u,D⟩:=g k ψ hk;exact⟨B,C,l,t,u,fun w hb=>iL.A1 _ _ (fun j b=>a k oO j ((oT.spec t u).1 j b)) (D w hb)⟩
 . have p:k=Φ.length:=oO;subst p;rw[aX lZ]at hk;simp only[fA,aI,jl]at hk;subst hk;subst v;exact⟨x,o,e,r,b,fun w hb=>iL.A1 _ _ (fun j q=>a _ lZ j ((oT.spec r b).1 j q)) (h w hb)⟩
def lj.is(p:qF R){m n:Nat}{g:Act}{w0:Vz}{f:Ag}{Φ:List Fact}{i:Nat}{o:Oper}{c:Ac}(a:Vy)(q:Φ.length=i)(r:ops[i]?=some o)(s:oT ops i a=true)(h:∀w,R w0 w->iL f Φ w (fun b=>∀K:Ax,Shut (K c w)->if Region.wanted o (yielded ops b.tmps)=true then Oper.wp P o b w (fun d w'=>d.defers=b.defers/\K (left o.dst d) w') rQ else K undef w) a g)(t:lj R P ops Q m n g w0 f (Φ++ [Is c])):lj R P ops Q m n g w0 f Φ:=
 lj.step a q r s (Is.mW R c) (fun w hb=>by
  have k:=h w hb;revert k;generalize g=e;intro k;have l:∀(a:Vy)(e:Act),iL f Φ w (fun b=>∀K:Ax,Shut (K c w)->if Region.wanted o (yielded ops b.tmps)=true then Oper.wp P o b w (fun d w'=>d.defers=b.defers/\K (left o.dst d) w') rQ else K undef w) a e->iL f Φ w (fun b=>∀K:Ax,Shut (∀v w',R w w'->Is c v w'->K v w')->if Region.wanted o (yielded ops b.tmps)=true then Oper.wp P o b w (fun d w'=>d.defers=b.defers/\K (left o.dst d) w') rQ else K undef w) a e:=by
   intro a
   induction a with
   |nil=>intro e h K u;exact h K (u c w (p.refl _) rfl)
   |cons j a x=>intro e h v y;exact x _ (h v y)
  exact l a e k) t
def tg.ready{k:Act}{w0:Vz}{Φ:List Fact}{L:Vy}{b:Ao}{xs:Av}{a:Act}{w:Vz}(H:tg R P ops k w0 Φ L b xs a w){i:Nat}(l:i∈ Region.ready .any ops b):
 i<ops.size/\i ∉ L/\(∀j∈ jY ops i,j∈ L)/\∃o,ops[i]?=some o:=by
 obtain⟨h,o,f,m⟩:=mC.1 l;have c:=(kO.1 f).1;have n:=H.marks i c;rw[dZ,n]at h;refine⟨c,by simpa using h,fun j p=>?_,o,f⟩;obtain⟨e,q,hb,rfl⟩:=(M5 f).1 p;have d:=m e q hb;rcases bB e.on ops.size with g|g
 . rw[dZ,H.marks _ g]at d
   simpa using d
 . rw[dZ,dX (by rw[H.size];exact g)]at d
   cases d
def tg.next(r:qF R){n:Nat}(F:jK ops n){g:Act}{w0:Vz}{Φ:List Fact}{L:Vy}{b:Ao}{xs:Av}{a:Act}{w w':Vz}(B:g.tmps.size=n)(H:tg R P ops g w0 Φ L b xs a w){i:Nat}(C:i<ops.size)(p:i ∉ L)(s:∀j∈ jY ops i,j∈ L)(l:∀j,nC R (Φ.getD j td))(hb:R w w'){v:Ac}(t:Φ.getD i td v w'){d:AQ}(m:iE ops i=d){u:Ac}(z:u=v∨d=none):
 tg R P ops g w0 Φ (L++ [i]) (b.setIfInBounds i true) (fun j=>if j=i then v else xs j) (a.put d u) w':=by
 refine⟨?_,?_,?_,?_,?_,?_,?_,?_⟩
 . exact List.nodup_append.2 ⟨H.nodup,sS,fun x A y q=>by simp at q;subst q;exact fun e=>p (e ▸ A)⟩
 .
  intro j c;rcases bD.1 c with h|h
  . exact H.lt j h
  . simp at h;omega
 . simp[H.size]
 .
  intro j c;by_cases f:j=i
  . subst f;rw[jJ (by rw[H.size];exact c)];simp
  . rw[l9 (fun h=>f h.symm),H.marks j c]
    simp[f]
 .
  intro k hk j c;rcases bD.1 hk with h|h
  . exact iu _ (H.closed k h j c)
  . simp at h;subst h;exact iu _ (s j c)
 .
  rw[Lb,H.act];have e:i8 ops (fun j=>if j=i then v else xs j) L g=i8 ops xs L g:=La L g (fun j c=>aH (fun f:j=i=>p (f ▸ c)));rw[e]
  show _=(i8 ops xs L g).put (iE ops i) (if i=i then v else xs i)
  rw[aN rfl,m];rcases z with rfl|rfl<;>rfl
 .
  intro j c;by_cases f:j=i
  . subst f
    simpa using t
  .
   have o:j∈ L:=by
    rcases bD.1 c with h|h
    . exact h
    . simp at h;exact absurd h f
   simp only[aH f];exact l j _ _ _ hb (H.facts j o)
 . exact r.trans H.base hb
def tg.same{n:Nat}(F:jK ops n){d:Act}{w0:Vz}{Φ:List Fact}{L:Vy}{f:Ao}{xs:Av}{a:Act}{w:Vz}(s:d.tmps.size=n)(H:tg R P ops d w0 Φ L f xs a w){i:Nat}{o:Oper}(u:ops[i]?=some o)(v:i ∉ L)(z:∀j∈ jY ops i,j∈ L){l:Vy}(k:oT ops i l=true):
 execOp a.eval o=execOp (i8 ops xs l d).eval o/\Region.wanted o (yielded ops a.tmps)=Region.wanted o (yielded ops (i8 ops xs l d).tmps):=by
 obtain⟨A,B⟩:=oT.spec u k;have m:∀t,t∈ o.looksAt ops->a.tmps[t]?=(i8 ops xs l d).tmps[t]?:=by
  intro t p;rw[H.act];by_cases q:∃j∈ L,iE ops j=some t
  .
   obtain⟨j,k,c⟩:=q;have r:i≠j:=fun e=>v (e ▸ k)
   rcases B j t r c p with h|h
   . rw[EU F c L d s k,EU F c _ d s h]
   . exact absurd (H.closed j k i h) v
  . rw[Ds L d (fun j k c=>q ⟨j,k,c⟩),Ds _ d (fun j k c=>q ⟨j,z j (A j k),c⟩)]
 constructor
 .
  refine execOp_congr o (fun C b=>F.sel i o C b u) (fun x D=>?_);cases x with
  |tmp t=> have:=m t (iu _ (List.mem_filterMap.2 ⟨.tmp t,by simpa using D,rfl⟩));simp only[Act.eval,dZ,this]
  |_=>rfl
 .
  unfold Region.wanted;cases hg:o.guard with
  |none=>rfl
  |some gw=>
   obtain⟨g,y⟩:=gw;have E:yielded ops a.tmps g=yielded ops (i8 ops xs l d).tmps g:=by
    unfold yielded;cases p:(ops[g]?).bind (·.dst) with
    |none=>rfl
    |some t=> have:=m t (by simp[Oper.looksAt,hg,p]);simp only[Bh,this]
   simp only[E]
def tg.JB(C:qF R){n:Nat}(F:jK ops n){l:Act}{w0:Vz}{Φ:List Fact}{L:Vy}{c:Ao}{xs:Av}{a:Act}{w:Vz}(t:l.tmps.size=n){D:Ag}{m:Nat}(x:∀j,j<m->D j=iE ops j)(U:Φ.length<=m)(p:tz R P ops l w0 D Φ)(H:tg R P ops l w0 Φ L c xs a w){i:Nat}(I:i∈ Region.ready .any ops c)(hl:i<Φ.length){K:Ar}(E:∀y G w',tg R P ops l w0 Φ (L++ [i]) (c.setIfInBounds i true) y G w'->K G w'):wpOp P ops Q i K a w:=by
 obtain⟨q,z,u,o,k⟩:=H.ready I;have hφ:Φ[i]?=some (Φ.getD i td):=by rw[aC,gE hl];rfl
 obtain⟨_,V,J,r,f,M⟩:=p i _ hφ;rw[k]at r;cases r;have e:∀j,nC R (Φ.getD j td):=by
  intro j;rcases bB j Φ.length with h|h
  . exact(p j _ (by rw[aC,gE h];rfl)).1
  . rw[aC,aO h]
    exact fun _ _ _ _ h=>h
 obtain⟨O,S⟩:=H.same F t k z u f;have T:=iL.jZ (xs:=xs) _ _ (fun j A=>x j (oB (F.low i j ((oT.spec k f).1 j A)))) (M w H.base) (fun j A=>H.facts j (u j ((oT.spec k f).1 j A)));have g:iE ops i=o.dst:=by unfold iE;rw[k];rfl
 refine J3 (b:=i8 ops xs J l) (N:=fun v w'=>R w w'/\Φ.getD i td v w') k (fun d B=>?_) O S (T (fun v w'=>R w w'/\Φ.getD i td v w') (fun v w' hb s=>⟨hb,s⟩)) ?_
 . rw[J5,t]
   exact F.fits i d (g.trans B)
 .
  rintro v w' (⟨hb,s⟩|⟨hnone,hb,s⟩)
  . exact E _ _ _ (H.next C F t q z u e hb s g (.inl rfl))
  . exact E _ _ _ (H.next C F t q z u e hb s g (.inr hnone))
def tg.tJ{n:Nat}(F:jK ops n){g:Act}{w0:Vz}{Φ:List Fact}{L:Vy}{b:Ao}{xs:Av}{a:Act}{w:Vz}(H:tg R P ops g w0 Φ L b xs a w)(h:Region.ready .any ops b= []):∀j,j<ops.size->j∈ L:=by
 intro j
 induction j using Nat.strongRecOn with
 |_ j ih=>
  intro c;by_cases f:j∈ L
  . exact f
  .
   have:=mC.2 ⟨by rw[dZ,H.marks j c];simp[f],ops[j],iG c,fun e i hb=>by
    have k:=(M5 (iG c)).2 ⟨e,i,hb,rfl⟩;have d:=F.low j _ k;rw[dZ,H.marks _ oO]
    simpa using ih _ d oO⟩
   rw[h]at this;cases this
def MX(s:qF R){n:Nat}(F:jK ops n){g:Act}{w0:Vz}{Φ:List Fact}(t:g.tmps.size=n){p:Ag}{m:Nat}(k:∀j,j<m->p j=iE ops j)(u:Φ.length<=m)(l:tz R P ops g w0 p Φ)(d:∀L b xs a w,tg R P ops g w0 Φ L b xs a w->(∀j,j<ops.size->j∈ L)->Q .normal a w)(f:∀i L b xs a w c,tg R P ops g w0 Φ L b xs a w->i∈ Region.ready .any ops b->Φ.length<=i->L.length+(c+1)=ops.size->wpOp P ops Q i (wpAny P .any ops Q c (b.setIfInBounds i true)) a w):
 ∀(c:Nat)(L:Vy)(b:Ao) (xs:Av) (a:Act) (w:Vz),tg R P ops g w0 Φ L b xs a w->L.length+c=ops.size->wpAny P .any ops Q c b a w:=by
 intro c
 induction c with
 |zero=>
  intro L b xs a w H q;have e:=MY L ops.size H.nodup H.lt oO;refine⟨?_,d _ _ _ _ _ H e⟩;cases hr:Region.ready .any ops b with
  |nil=>rfl
  |cons i B=> obtain⟨v,x,_⟩:=H.ready (i:=i) (by rw[hr];exact dT);exact absurd (e i v) x
 |succ c y=>
  intro L b xs a w H q;refine⟨fun h=>d _ _ _ _ _ H (H.tJ F h),fun i r=>?_⟩;rcases bB i Φ.length with h|h
  . exact H.JB s F t k u l r h (fun o z w' A=>y _ _ o z w' A sO)
  . exact f i L b xs a w c H r h q
def tg.begin(b:qF R){a:Act}{w0:Vz}{Φ:List Fact}{xs:Av}:tg R P ops a w0 Φ [] (Array.replicate ops.size false) xs a w0:=
 ⟨sS,sS,sS,fun j c=>by simp[c],sS,rfl,sS,b.refl _⟩
end
def Rb:World->World->Prop:=fun w w'=>Below w.heap.size w w'
def Rb.ok:qF Rb:=⟨fun _=>ac _ _,fun {u v w} (h:Bl u v) (k:Bl v w)=>(show Below u.heap.size u w from h.trans (k.mono h.size))⟩
def BE(P:Au)(ops:Af)(a0:Act)(w0:Vz)(ds:Ag)(Φ:List Fact)(o:Oper)(js:Vy)(φ:Fact):Prop:=
 ∀w,Below w0.heap.size w0 w->iL ds Φ w (fun b=>∀K:Ax,Shut (∀v w',Below w.heap.size w w'->φ v w'->K v w')->if Region.wanted o (yielded ops b.tmps)=true then Oper.wp P o b w (fun a' w'=>a'.defers=b.defers/\K (left o.dst a') w') rQ else K undef w) js a0
def x8(P:Au)(ops:Af)(a0:Act)(w0:Vz)(ds:Ag)(Φ:List Fact):Prop:=
 ∀i φ,Φ[i]?=some φ->mP φ/\∃o js,ops[i]?=some o/\oT ops i js=true/\BE P ops a0 w0 ds Φ o js φ
def bA(P:Au)(ops:Af)(Q:Ab)(m n:Nat)(a0:Act)(w0:Vz)(ds:Ag)(Φ:List Fact):Prop:=
 (∀j,j<m->ds j=iE ops j)->jK ops n->a0.tmps.size=n->x8 P ops a0 w0 ds Φ->wpAny P .any ops Q ops.size (Array.replicate ops.size false) a0 w0
section
variable {P:Au} {ops:Af} {Q:Ab}
def bA.begin{id n:Nat}{a:Act}{w:Vz}(m:Nat)(b:Ag)(e:P.follows .mixedOrders=true)(c:uh ops m b=true)(d:uL ops n=true)(f:a.tmps.size=n)(h:bA P ops Q m n a w.drew b []):(Code.region id ops true).wp P Q a w:=
 lj.begin (R:=Rb) m b e c d f h
def bA.step{m n:Nat}{a:Act}{w0:Vz}{b:Ag}{Φ:List Fact}{i:Nat}{o:Oper}{φ:Fact}(c:Vy)(d:Φ.length=i)(e:ops[i]?=some o)(f:oT ops i c=true)(g:mP φ)(h:BE P ops a w0 b Φ o c φ)(j:bA P ops Q m n a w0 b (Φ++ [φ])):bA P ops Q m n a w0 b Φ:=
 lj.step (R:=Rb) c d e f g h j
def bA.is{m n:Nat}{a:Act}{w0:Vz}{d:Ag}{Φ:List Fact}{i:Nat}{o:Oper}{c:Ac}(e:Vy)(g:Φ.length=i)(j:ops[i]?=some o)(k:oT ops i e=true)(h:∀w,Below w0.heap.size w0 w->iL d Φ w (fun b=>∀K:Ax,Shut (K c w)->if Region.wanted o (yielded ops b.tmps)=true then Oper.wp P o b w (fun f w'=>f.defers=b.defers/\K (left o.dst f) w') rQ else K undef w) e a)(l:bA P ops Q m n a w0 d (Φ++ [Is c])):bA P ops Q m n a w0 d Φ:=
 lj.is Rb.ok e g j k h l
abbrev At(P:Au)(ops:Af)(a0:Act)(w0:Vz)(Φ:List Fact)(L:Vy)(listed:Ao)(xs:Av)(a:Act)(w:Vz):Prop:=tg Rb P ops a0 w0 Φ L listed xs a w
def At.next{n:Nat}(F:jK ops n){c:Act}{w0:Vz}{Φ:List Fact}{L:Vy}{b:Ao}{xs:Av}{a:Act}{w w':Vz}(g:c.tmps.size=n)(H:At P ops c w0 Φ L b xs a w){i:Nat}(h:i<ops.size)(k:i ∉ L)(l:∀j∈ jY ops i,j∈ L)(e:∀j,mP (Φ.getD j td))(hb:Bl w w'){v:Ac}(m:Φ.getD i td v w'){d:AQ}(f:iE ops i=d){u:Ac}(o:u=v∨d=none):
 At P ops c w0 Φ (L++ [i]) (b.setIfInBounds i true) (fun j=>if j=i then v else xs j) (a.put d u) w':=
 tg.next Rb.ok F g H h k l e hb m f o
def MW{n:Nat}(F:jK ops n){e:Act}{w0:Vz}{Φ:List Fact}(l:e.tmps.size=n){k:Ag}{m:Nat}(g:∀j,j<m->k j=iE ops j)(o:Φ.length<=m)(h:x8 P ops e w0 k Φ)(f:∀L b xs a w,At P ops e w0 Φ L b xs a w->(∀j,j<ops.size->j∈ L)->Q .normal a w)(d:∀i L b xs a w c,At P ops e w0 Φ L b xs a w->i∈ Region.ready .any ops b->Φ.length<=i->L.length+(c+1)=ops.size->wpOp P ops Q i (wpAny P .any ops Q c (b.setIfInBounds i true)) a w):
 ∀(c:Nat)(L:Vy)(b:Ao) (xs:Av) (a:Act) (w:Vz),At P ops e w0 Φ L b xs a w->L.length+c=ops.size->wpAny P .any ops Q c b a w:=
 MX Rb.ok F l g o h f d
def At.begin{a:Act}{w0:Vz}{Φ:List Fact}{xs:Av}:At P ops a w0 Φ [] (Array.replicate ops.size false) xs a w0:=
 tg.begin Rb.ok
def nE(ds:Ag)(N:Act->Prop)(w:Vz):List Fact->Nat->Act->Prop
 | [],_,a=>N a
 |φ :: Φ,k,a=>∀v,φ v w->nE ds N w Φ (k+1) (a.put (ds k) v)
theorem nE.jZ{b:Ag}{N:Act->Prop}{w:Vz}{xs:Av}:∀(Φ:List Fact)(k:Nat)(a:Act),(∀j,j<Φ.length->b (k+j)=iE ops (k+j))->nE b N w Φ k a->(∀j,j<Φ.length->Φ.getD j td (xs (k+j)) w)->N (i8 ops xs ((List.range Φ.length).map (k+ ·)) a)
 | [],_,_,_,h,_=>h
 |φ :: Φ,k,a,hd,h,hx=>by
  have c:=hd 0 sS;simp only[dV]at c;have d:=h (xs k) (by have:=hx 0 sS;simpa using this);have f:=nE.jZ Φ (k+1) _ (fun j g=>by have:=hd (j+1) sO;rw[show k+1+j=k+(j+1) by omega];exact this) d (fun j g=>by
   have:=hx (j+1) sO;rw[ju]at this;rw[show k+1+j=k+(j+1) by omega]
   exact this)
  rw[dJ,List.range_succ_eq_map,dY,kG];unfold i8;rw[dV,<-c];have e:(fun x=>k+x) ∘ Nat.succ=fun x=>k+1+x:=by funext x;simp only[Function.comp];omega
  rw[e];exact f
def bA.Qv{n:Nat}{d:Act}{w0:Vz}{m:Ag}{Φ:List Fact}(hl:Φ.length=ops.size)(h:∀w,Below w0.heap.size w0 w->nE m (fun a=>Q .normal a w) w Φ 0 d):bA P ops Q ops.size n d w0 m Φ:=fun f F o l=>by
 refine MW F o f oO l (fun L b xs a w H c=>?_) (fun i L b xs a w p H q r _=>?_) ops.size [] _ (fun _=>undef) d w0 At.begin sS
 .
  have s:=nE.jZ (ops:=ops) (xs:=xs) Φ 0 d (fun j g=>by rw[cC];exact f j oO) (h w H.base) (fun j g=>by rw[cC];exact H.facts j (c j oO));have e:i8 ops xs L d=i8 ops xs ((List.range Φ.length).map (0+ ·)) d:=by
   refine J4 F o (fun j=>?_);constructor
   . intro g;exact bZ.2 ⟨j,dL.2 (by rw[hl];exact H.lt j g),oO⟩
   . intro g;obtain⟨k,hk,rfl⟩:=bZ.1 g;exact c _ (oB (dL.1 hk))
  rw[H.act,e];exact s
 . have:=(H.ready q).1
   omega
def xr(ops:Af):Bool:=(List.range (ops.size - 1)).all fun j=>(List.range ops.size).any fun i=>(jY ops i).contains j
def At.oz{n:Nat}(F:jK ops n){g:Act}{w0:Vz}{Φ:List Fact}{L:Vy}{b:Ao}{xs:Av}{a:Act}{w:Vz}(H:At P ops g w0 Φ L b xs a w)(c:xr ops=true){i:Nat}(h:i∈ Region.ready .any ops b)(hl:i+1=ops.size):∀j,j<i->j∈ L:=by
 obtain⟨_,_,l,_⟩:=H.ready h;have d:∀k j,k+j+1=i->j∈ L:=by
  intro k
  induction k using Nat.strongRecOn with
  |_ k ih=>
   intro j o;unfold xr at c;simp only[ij,Bn,dL,qf,nk]at c;obtain⟨m,q,e⟩:=c j oO;have p:=F.low m j e;by_cases f:m=i
   . subst f;exact l j e
   . exact H.closed m (ih (i - m - 1) oO m oO) j e
 intro j o;exact d (i - j - 1) j oO
def bA.oz{n:Nat}{m:Act}{w0:Vz}{x:Ag}{Φ:List Fact}{o:Oper}{i:Nat}(S:Φ.length=i)(hl:i+1=ops.size)(C:ops[i]?=some o)(D:xr ops=true)(h:∀w,Below w0.heap.size w0 w->nE x (fun a=>∀K:Ar,Shut (∀t w',Q .normal t w'->K t w')->if Region.wanted o (yielded ops a.tmps)=true then Oper.wp P o a w K Q else K (a.put o.dst undef) w) w Φ 0 m):bA P ops Q i n m w0 x Φ:=fun p F y u=>by
 refine MW F y p oO u (fun L b xs a w H c=>?_) (fun g L b xs a w q H r E T=>?_) ops.size [] _ (fun _=>undef) m w0 At.begin sS
 . have:=H.facts i (c i oO);rw[aC,aO oO]at this;exact this.elim
 .
  obtain⟨G,v,I,_⟩:=H.ready r;obtain rfl:g=i:=oO;have c:=H.oz F D r hl;have z:g<=L.length:=by
   have:=(sL (n:=g)).length_le_of_subset (l₂:=L) (fun j f=>c j (dL.1 f))
   simpa using this
  have A:=nE.jZ (ops:=ops) (xs:=xs) Φ 0 m (fun j f=>by rw[cC];exact p j oO) (h w H.base) (fun j f=>by rw[cC];exact H.facts j (c j oO));have e:i8 ops xs L m=i8 ops xs ((List.range Φ.length).map (0+ ·)) m:=by
   refine J4 F y (fun j=>?_);constructor
   . intro f;exact bZ.2 ⟨j,dL.2 (by have:=H.lt j f;have:j≠g:=fun e=>v (e ▸ f);omega),oO⟩
   . intro f;obtain⟨k,hk,rfl⟩:=bZ.1 f;exact c _ (oB (dL.1 hk))
  rw[<-e,<-H.act]at A;have J:q=0:=oO;subst J;have d:Region.ready .any ops (b.setIfInBounds g true)= []:=by
   cases hr:Region.ready .any ops (b.setIfInBounds g true) with
   |nil=>rfl
   |cons j U=>
    obtain⟨s,V,M,_⟩:=mC.1 (show j∈ Region.ready .any ops (b.setIfInBounds g true) by rw[hr];exact dT);have f:=(kO.1 M).1;by_cases B:j=g
    . subst B;rw[dZ,jJ (by rw[H.size];exact f)]at s;cases s
    . rw[dZ,l9 (fun h=>B h.symm),H.marks j f]at s;simp only[pM,mo]at s;exact absurd (c j oO) s
  exact De C (fun K' N=>A K' (fun t w' O=>N t w' ⟨d,O⟩))
def qr:=@bA.oz
end
section
variable {P:Au} {ops:Af} {Q:Ab}
def bA.bg{id n:Nat}{a:Act}{w:Vz}(m:Nat)(b:Ag)(h:bA P ops Q m n a w.drew b [])(e:P.follows .mixedOrders=true:=by kernel_rfl)(c:uh ops m b=true:=by kernel_rfl)(d:uL ops n=true:=by kernel_rfl)(f:a.tmps.size=n:=by rfl):(Code.region id ops true).wp P Q a w:=bA.begin m b e c d f h
def ou:=@bA.bg
def bA.pu{m n:Nat}{a:Act}{w0:Vz}{d:Ag}{Φ:List Fact}{i:Nat}{o:Oper}{c:Ac}{N:AB}(f:Vy)(h:∀w,Below w0.heap.size w0 w->N w)(j:bA P ops Q m n a w0 d (Φ++ [Is c]))(k:Φ.length=i:=by simp only[cH,bO,aS,dJ,iU,Nat.reduceAdd];exact rfl)(l:ops[i]?=some o:=by simp only[aK,aI,aM];exact rfl)(p:oT ops i f=true:=by kernel_rfl)(e:∀w,iL d Φ w (fun b=>∀K:Ax,Shut (K c w)->if Region.wanted o (yielded ops b.tmps)=true then Oper.wp P o b w (fun g w'=>g.defers=b.defers/\K (left o.dst g) w') rQ else K undef w) f a=N w:=by intro w;simp only[iL,cH,bO,j5,ju,sR,Act.put,aU,cN,bX,Nat.reduceAdd,Nat.reduceBEq,gO,fS];exact rfl):bA P ops Q m n a w0 d Φ:=
 bA.is f k l p (fun w hb=>by rw[e w];exact h w hb) j
def gJ:=@bA.pu
def bA.p0{m n:Nat}{a:Act}{w0:Vz}{d:Ag}{Φ:List Fact}{i:Nat}{o:Oper}{c:Ac}{N:AB}(f:Vy)(j:bA P ops Q m n a w0 d (Φ++ [Is c]))(k:Φ.length=i:=by simp only[cH,bO,aS,dJ,iU,Nat.reduceAdd];exact rfl)(l:ops[i]?=some o:=by simp only[aK,aI,aM];exact rfl)(p:oT ops i f=true:=by kernel_rfl)(e:∀w,iL d Φ w (fun b=>∀K:Ax,Shut (K c w)->if Region.wanted o (yielded ops b.tmps)=true then Oper.wp P o b w (fun g w'=>g.defers=b.defers/\K (left o.dst g) w') rQ else K undef w) f a=N w:=by intro w;simp only[iL,cH,bO,j5,ju,sR,Act.put,aU,cN,bX,Nat.reduceAdd,Nat.reduceBEq,gO,fS];exact rfl)(h:∀w,Below w0.heap.size w0 w->N w:=by intro w hb K q;go_simp;exact q):bA P ops Q m n a w0 d Φ:=
 bA.is f k l p (fun w hb=>by rw[e w];exact h w hb) j
def cV:=@bA.p0
def bA.ca{m n:Nat}{a:Act}{w0:Vz}{c:Ag}{Φ:List Fact}{i:Nat}{o:Oper}{φ:Fact}{N:AB}(d:Vy)(g:mP φ)(h:∀w,Below w0.heap.size w0 w->N w)(j:bA P ops Q m n a w0 c (Φ++ [φ]))(k:Φ.length=i:=by simp only[cH,bO,aS,dJ,iU,Nat.reduceAdd];exact rfl)(l:ops[i]?=some o:=by simp only[aK,aI,aM];exact rfl)(p:oT ops i d=true:=by kernel_rfl)(e:∀w,iL c Φ w (fun b=>∀K:Ax,Shut (∀v w',Below w.heap.size w w'->φ v w'->K v w')->if Region.wanted o (yielded ops b.tmps)=true then Oper.wp P o b w (fun f w'=>f.defers=b.defers/\K (left o.dst f) w') rQ else K undef w) d a=N w:=by intro w;simp only[iL,cH,bO,j5,ju,sR,Act.put,aU,cN,bX,Nat.reduceAdd,Nat.reduceBEq,gO,fS];exact rfl):bA P ops Q m n a w0 c Φ:=
 bA.step d k l p g (fun w hb=>by rw[e w];exact h w hb) j
def fP:=@bA.ca
def bA.fi{n:Nat}{b:Act}{w0:Vz}{c:Ag}{Φ:List Fact}{N:AB}(h:∀w,Below w0.heap.size w0 w->N w)(hl:Φ.length=ops.size:=by simp only[cH,bO,aS,dJ,iU,lH,Nat.reduceAdd])(e:∀w,nE c (fun a=>Q .normal a w) w Φ 0 b=N w:=by intro w;simp only[nE,cH,bO,sR,Act.put,aU,cN,bX,Nat.reduceAdd,Nat.reduceBEq,gO,fS];exact rfl):bA P ops Q ops.size n b w0 c Φ:=
 bA.Qv hl (fun w hb=>by rw[e w];exact h w hb)
end
end
end Go.Proofs.YtfgclhpgdanmfaaGreatDoor
