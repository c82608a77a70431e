import Derived.Test.YtfgclhpgdanmfaaGreatDoorS21RowsD
namespace Go.Proofs.YtfgclhpgdanmfaaGreatDoor
set_option linter.defProp false
open Go.RowKit
open Go.Proofs.Tryz
set_option linter.unusedSimpArgs false
set_option linter.unusedVariables false
set_option maxHeartbeats 8000000
set_option maxRecDepth 1000000
variable{a:Vx}{B D K W c cap g i n sz x:Nat}{b:AL}{d:Vy}{u v:Ac}{w w':Vz}{e t:Vr}{xs:Vv}
def qAt(ss:Ah)(i:Nat):Rat:=(ss.map (·.q)).getD i 0
def CL{a:Ah}{e:FE}(h:a[i]?=some e):qAt a i=e.q:=by unfold qAt;simp[List.getD,h]
def Hu(a a':Vx)(cap cap' B j:Nat)(c N:Ah)(b1 b2 R:Ac)(q:Rat)(w:Vz)(h:lK w a cap c)(h':lK w a' cap' N)(bd:N.length=c.length)(hl:c.length<=1000)(hv:eF w (.agg #[b1,b2,R]) q)(hq:Fits q j)(hj:0<j)(hB:∀t∈ c,∀s∈ N,t.k+s.k+j+1<=B)(be:B<68719476000):
 Calls prog 148 #[.slice a c.length cap,.slice a' c.length cap',.agg #[b1,b2,R]] w fun e w'=>(∃g us,e=.returned (.slice (some ⟨g,0,none⟩) c.length c.length)/\w.heap.size<=g/\iQ w' g us/\Made (fun i x=>x - qAt N i*q) B c us c.length)/\Below w.heap.size w w':=by
 obtain⟨HH,HG,HV,S,ar⟩:=Id h h' hv hq hB;have aj:=fun w=>B3 c.length oO w
 obtain⟨MC,T⟩:=nm (((List.replicate c.length FE.zero).flatMap FE.cells).toArray);rw[T]at aj;have au:=Hi T.symm;clear h h' hv hq hB T;go_enter func148,ntmps148;go_wp2_with fail;clear aj;obtain⟨g,hg⟩:=nm (w.heap.size+1);have n:w.heap.size<g:=oO;obtain⟨W,hW⟩:=nm ((w.alloc (.cells #[b1,b2,R] 99)).alloc (.cells MC 99));have av:=Ub hW;have aw:=Ud hW;have ax:O (iQ W g (List.replicate c.length FE.zero)):=Hi (by rw[<-hW,<-hg];have:=DL (w.alloc (.cells #[b1,b2,R] 99)) c.length MC au.o;simpa using this)
 try rw[hW]
 try rw[hg]
 clear hW hg;go_loopw [14] (fun i wr=>∃(k:Nat)(us:Ah),k<=c.length/\i=.int .i64 k/\Made (fun i x=>x - qAt N i*q) B c us k/\iQ wr g us/\SB wr w.heap.size 99 #[b1,b2,R]/\Below w.heap.size w wr) (fun i _=>c.length - (intOf i).toNat)
 case atStart=>exact⟨0,_,oO,rfl,Made.start _ _ _,ax.o,aw.o,av.o⟩
 case round=>
  obtain⟨k,us,hk,rfl,hm,U,P,hb⟩:=hrel;obtain⟨HB,HM,HQ,HS⟩:=Ic hb hm U P;have bf:=hm.1;have bg:=U.blk.lt;clear hb hm U P;by_cases ay:k<c.length
  .
   obtain⟨e,he⟩:∃e,c[k]?=some e:=⟨c[k],gE ay⟩;obtain⟨s,P⟩:∃s,N[k]?=some s:=⟨N[k],gE oO⟩;obtain⟨fb,V,rfl,C,D0,D1,D2⟩:=HH.o.at he;obtain⟨sb,u,rfl,D,E0,E1,E2⟩:=HG.o.at P;obtain⟨hx,X,az⟩:=HH.o.get he;obtain⟨hy,ak,E⟩:=HG.o.get P;have bh:=ar.o e (mO he) s (mO P);obtain⟨y0,al⟩:∃y0,us[k]?=some y0:=⟨us[k],gE oO⟩;have n1:g≠fb:=oO;have n2:g≠w.heap.size:=oO;have n3:g≠sb:=oO;obtain⟨HE,am,HX,F,HY,l,Y,Z,aa⟩:=Ih he (CL P) hx X hy ak D0 D1 D2;obtain⟨ab,ad,ae⟩:=Ib E0 E1 E2;obtain⟨o1,o2,o3⟩:=hx.one;have a0:=ns prog o1;have a1:=ns prog o2;have a2:=ns prog o3;obtain⟨d0,d1,d2⟩:=Jb HB.o C D0 D1 D2;have q1:((k:Int)<(c.length:Int)):=oO;have f0:=HQ.o.blk.free (k*3);have f1:=HQ.o.blk.free (k*3+1);have f2:=HQ.o.blk.free (k*3+2);obtain⟨gb,an,af,_,t0,t1,t2⟩:=HQ.o.row.at al;cases af;simp only[cC]at t0 t1 t2;obtain⟨W1,r⟩:=nm (((wr.setCell ⟨g,k*3,none⟩ e.x).setCell ⟨g,k*3+1,none⟩ e.y).setCell ⟨g,k*3+2,none⟩ e.z);have a3:O (iQ W1 g (us.set k e)):=Hi (by rw[<-r];exact HQ.o.set oO ⟨hx.below HB.o,X,az⟩);have ao:O (SB W1 w.heap.size 99 #[b1,b2,R]):=Hi (by rw[<-r];exact((HS.o.other n2.symm _ _).other n2.symm _ _).other n2.symm _ _);have G:O (Bl w W1):=Hi (by rw[<-r];exact((HB.o.setCell (p:=⟨g,k*3,none⟩) (dO n) _).setCell (p:=⟨g,k*3+1,none⟩) (dO n) _).setCell (p:=⟨g,k*3+2,none⟩) (dO n) _);obtain⟨s0,s1,s2⟩:=Jb G.o D E0 E1 E2;rw[<-r]at s0 s1 s2;have a4:=Hi r;clear he P hx X hy ak al r o1 o2 o3 D0 D1 D2 E0 E1 E2;go_wp2_with fail;rw[a4.o];clear s0 s1 s2 d0 d1 d2 f0 f1 f2 t0 t1 t2 a0 a1 a2;go_fit (EM (HY.o.below G.o));rintro e' w4 ⟨rfl,H⟩;obtain⟨b,ap,I⟩:=Ib (G.o.trans (H.mono G.o.size)) (a3.o.below H) (ao.o.below H ao.o.lt);clear H;by_cases h0:s.q=0
   . rw[dC h0];have HZ:O (e.q=e.q - qAt N k*q):=Hi (by rw[am.o,h0,tP,oD,Rat.neg_zero,qO]);clear h0;go_wp2;go_roundw
     case rel=>exact⟨k+1,_,oO,by go_num,HM.o.step HE.o HZ.o oO,ap.o,I.o,b.o⟩
     case measure=>exact mI
   .
    rw[bS h0];clear h0;go_wp2_with fail;obtain⟨x0,x1,x2⟩:=Jb b.o C Y.o Z.o aa.o;obtain⟨z0,z1,z2⟩:=Jb b.o D ab.o ad.o ae.o;obtain⟨k0,k1,k2,-⟩:=zc I.o;have a7:k<(us.set k e).length:=by rw[aQ];omega
    go_region_held3 (fun v=>v.cell? ⟨fb,V+k*3,none⟩=some e.x/\v.cell? ⟨fb,V+k*3+1,none⟩=some e.y/\v.cell? ⟨fb,V+k*3+2,none⟩=some e.z/\v.cell? ⟨sb,u+k*3,none⟩=some s.x/\v.cell? ⟨sb,u+k*3+1,none⟩=some s.y/\v.cell? ⟨sb,u+k*3+2,none⟩=some s.z/\v.cell? ⟨w.heap.size,0,none⟩=some b1/\v.cell? ⟨w.heap.size,1,none⟩=some b2/\v.cell? ⟨w.heap.size,2,none⟩=some R) ((first|(simp [*];done)|go_keep)) (first
     |(
      go_at_call 55;apply cM
      first
       |exact I3 (HY.o.below b.o) (HV.o.below b.o) l.o S.o oO
       |exact I3 (HY.o.below b.o.drew) (HV.o.below b.o.drew) l.o S.o oO
       |exact I3 (HY.o.below b.o.drew.drew) (HV.o.below b.o.drew.drew) l.o S.o oO
      rintro e5 Q ⟨⟨v5,rfl,J⟩,K⟩;obtain⟨n5,a5,l5,c5,m5,o5,p5,rfl,J⟩:=J
      first
       |have d:O (Bl w4 Q):=Hi K
       |have d:O (Bl w4 Q):=Hi (bR.drew.trans K)
       |have d:O (Bl w4 Q):=Hi (bR.drew.drew.trans K)
      have ag:O (eF Q (.agg #[.bool n5,.slice a5 l5 c5,.slice m5 o5 p5]) (s.q*q)):=Hi ⟨n5,a5,l5,c5,m5,o5,p5,rfl,J⟩;clear J K;obtain⟨m,a8,ah⟩:=Ib (b.o.trans (d.o.mono b.o.size)) (ap.o.below d.o) (I.o.below d.o I.o.lt);obtain⟨x0,x1,x2⟩:=Jb m.o C Y.o Z.o aa.o;obtain⟨z0,z1,z2⟩:=Jb m.o D ab.o ad.o ae.o;obtain⟨k0,k1,k2,-⟩:=zc ah.o
      skip)
     |(
      go_at_call 47;apply cM
      first
       |exact CP (HX.o.below m.o) ag.o F.o (l.o.mul S.o E) oO
       |exact CP (HX.o.below m.o.drew) (ag.o.below bR.drew) F.o (l.o.mul S.o E) oO
       |exact CP (HX.o.below m.o.drew.drew) (ag.o.below bR.drew.drew) F.o (l.o.mul S.o E) oO
      rintro e6 w6 ⟨⟨v6,rfl,L⟩,M⟩;obtain⟨n6,a6,l6,c6,m6,o6,p6,rfl,L⟩:=L
      first
       |have f:=Hi M
       |have f:O (Bl Q w6):=Hi (bR.drew.trans M)
       |have f:O (Bl Q w6):=Hi (bR.drew.drew.trans M)
      have a9:O (eF w6 (.agg #[.bool n6,.slice a6 l6 c6,.slice m6 o6 p6]) (e.q - s.q*q)):=Hi ⟨n6,a6,l6,c6,m6,o6,p6,rfl,L⟩;clear L M;obtain⟨ai,A,aq⟩:=Ib (m.o.trans (f.o.mono m.o.size)) (a8.o.below f.o) (ah.o.below f.o ah.o.lt);obtain⟨x0,x1,x2⟩:=Jb ai.o C Y.o Z.o aa.o;obtain⟨z0,z1,z2⟩:=Jb ai.o D ab.o ad.o ae.o;obtain⟨k0,k1,k2,-⟩:=zc aq.o;have f0:=A.o.blk.free (k*3);have f1:=A.o.blk.free (k*3+1);have f2:=A.o.blk.free (k*3+2);obtain⟨gb,an,af,_,t0,t1,t2⟩:=A.o.row.at (i:=k) (e:=e) (bP oO);cases af;simp only[cC]at t0 t1 t2
      skip))
    all_goals
     go_wp2_with fail;obtain⟨HN,ba,bb⟩:=Ib (A.o.set (k:=k) (e:=⟨.bool n6,.slice a6 l6 c6,.slice m6 o6 p6,e.q - s.q*q,e.k+(s.k+j)+1⟩) a7 ⟨a9.o,F.o.sub (l.o.mul S.o E),Nat.succ_pos _⟩) (((aq.o.other n2.symm (k*3) (.bool n6)).other n2.symm (k*3+1) (.slice a6 l6 c6)).other n2.symm (k*3+2) (.slice m6 o6 p6)) (((ai.o.setCell (p:=⟨g,k*3,none⟩) (dO n) (.bool n6)).setCell (p:=⟨g,k*3+1,none⟩) (dO n) (.slice a6 l6 c6)).setCell (p:=⟨g,k*3+2,none⟩) (dO n) (.slice m6 o6 p6));rw[List.set_set]at HN;refine⟨⟨k+1,_,oO,by go_num,HM.o.step HE.o (by rw[am.o]) (by show e.k+(s.k+j)+1<=B;omega),HN.o,ba.o,bb.o⟩,?_⟩;simp[intOf];omega
  . have bc:k=c.length:=oO;subst bc;go_wp2;go_ret;exact⟨⟨g,us,rfl,oO,HQ.o,HM.o⟩,HB.o⟩
def Dk(rs:AA):∀v∈ rs.flatMap MR.cells,∃a n c,v=Value.slice a n c:=by intro v b;obtain⟨r,_,b⟩:=mp.1 b;exact⟨_,_,_,by simpa [MR.cells] using b⟩
theorem MO:∀(rs:AA)(k:Nat)(r:MR),(rs.set k r).flatMap MR.cells=(rs.flatMap MR.cells).set k (.slice r.a r.ts.length r.cap)
 | [],k,r=>sS
 |t :: l,0,r=>by simp[MR.cells]
 |t :: l,k+1,r=>by have b:=MO l k r;rw[bX,fJ,b,fJ];simp[MR.cells]
def MR.none:MR:=⟨.none,0,[]⟩
def Sa(n:Nat):madeCells (Value.cells (.slice .none 0 0)) n=((List.replicate n MR.none).flatMap MR.cells).toArray:=by
 have e:Value.cells (.slice .none 0 0)=#[.slice .none 0 0]:=by rfl
 rw[e];apply tT;rw[qI]
 induction n with
 |zero=>rfl
 |succ n a=> simp only[ik]at a ⊢;rw[j4,j4,fJ,<-a];rfl
def GD:(prog.info? 90).map (fun i=>(i.zero,i.size,i.bytes))=some (some (.slice .none 0 0),1,24):=kK
def MN(n:Nat)(d:n<=1048576)(w:Vz):(Instr.makeSlice 141 (.int .i64 n) (.int .i64 n)).run prog w=.ok (.slice (some ⟨w.heap.size,0,.none⟩) n n) (w.alloc (.cells ((List.replicate n MR.none).flatMap MR.cells).toArray 90)):=by obtain⟨i,a,h⟩:=aZ.1 GD;simp only[fZ]at h;obtain⟨b,c,hb⟩:=h;have:=qJ w 141 90 i _ underlying141 a b .i64 .i64 n n oO oO (rO hb) oO;rw[fC,c,eP,Sa]at this;exact this
abbrev cW:=Nat->Rat
abbrev AI:=Nat->cW
abbrev Aq:=Nat->List cW->List cW->List Nat->Prop
abbrev Aj:=List cW
def dot:Nat->cW->cW->Rat
 |0,_,_=>0
 |n+1,r,x=>dot n r x+r n*x n
theorem rG:∀(W:Nat)(r x s y:cW),(∀c,c<W->r c*x c=s c*y c)->dot W r x=dot W s y
 |0,_,_,_,_,_=>rfl
 |n+1,r,x,s,y,h=>by simp only[dot];rw[rG n r x s y (fun c a=>h c oO),h n oO]
theorem yY:∀(W:Nat)(r x:cW),(∀c,c<W->r c*x c=0)->dot W r x=0
 |0,_,_,_=>rfl
 |n+1,r,x,h=>by simp only[dot];rw[yY n r x (fun c a=>h c oO),h n oO];grind
theorem Dw:∀(W:Nat)(r s x:cW)(q:Rat),dot W (fun i=>r i - s i*q) x=dot W r x - q*dot W s x
 |0,_,_,_,_=>by simp only[dot];grind
 |n+1,r,s,x,q=>by simp only[dot];rw[Dw n r s x q];grind
theorem GJ:∀(W:Nat)(r x:cW)(q:Rat),dot W (fun i=>r i / q) x=dot W r x / q
 |0,_,_,_=>by simp only[dot];grind
 |n+1,r,x,q=>by simp only[dot];rw[GJ n r x q];grind
theorem Od:∀(W:Nat)(r x y:cW),dot W r (fun i=>x i - y i)=dot W r x - dot W r y
 |0,_,_,_=>by simp only[dot];grind
 |n+1,r,x,y=>by simp only[dot];rw[Od n r x y];grind
def qQ(x:cW)(h:Nat)(v:Rat):cW:=fun c=>if c=h then v else x c
def yC(x:cW)(h:Nat)(v:Rat):qQ x h v h=v:=aN rfl
def sT(x:cW){h:Nat}(v:Rat)(a:c≠h):qQ x h v c=x c:=aH a
theorem It:∀(W:Nat)(r x:cW)(h:Nat) (v:Rat),h<W->dot W r (qQ x h v)=dot W r x+r h*(v - x h)
 |0,_,_,_,_,hh=>oO
 |n+1,r,x,h,v,hh=>by
  simp only[dot];by_cases e:h=n
  . subst e;rw[rG h r (qQ x h v) r x (fun c a=>by rw[sT _ _ oO]),yC];grind
  . rw[It n r x h v oO,sT _ _ (gH e)]
    grind
def B8(W:Nat)(r x:cW)(h:Nat)(b:h<W)(d:∀c,c<W->c≠h->r c*x c=0):dot W r x=r h*x h:=by
 have a:=It W r (qQ x h 0) h (x h) b;have f:qQ (qQ x h 0) h (x h)=x:=by
  funext c;by_cases e:c=h
  . subst e;rw[yC]
  . rw[sT _ _ e,sT _ _ e]
 rw[f,yY W r (qQ x h 0) (fun c g=>?_),yC]at a
 . rw[a];grind
 .
  by_cases e:c=h
  . subst e;rw[yC];grind
  . rw[sT _ _ e];exact d c g e
def jH(W:Nat)(S:List cW)(x:cW):Prop:=∀r,r∈ S->dot W r x=0
def jH.cons{r:cW}{S:List cW}{x:cW}:jH W (r :: S) x↔dot W r x=0/\jH W S x:=by unfold jH;simp
def jH.app{S T:List cW}{x:cW}:jH W (S++T) x↔jH W S x/\jH W T x:=by unfold jH;simp only[bD];exact⟨fun h=>⟨fun r a=>h r (.inl a),fun r a=>h r (.inr a)⟩,fun h r a=>a.elim (h.1 r) (h.2 r)⟩
def ot:Nat->Nat->List cW->List Nat->Prop
 |lo,hi,[],[]=>lo<=hi
 |lo,hi,r :: S,h :: hs=>lo<=h/\r h≠0/\(∀c,c<h->r c=0)/\ot (h+1) hi S hs
 |_,_,_,_=>False
theorem ot.le:∀{S:List cW} {b:Vy} {lo a:Nat},ot lo a S b->lo<=a
 | [],[],_,_,h=>h
 |r :: S,h :: b,lo,a,⟨h1,_,_,h2⟩=>oB (ot.le h2)
 | [],_ :: _,_,_,h=>h.elim
 |r :: S,[],_,_,h=>h.elim
theorem ot.len:∀{S:List cW} {a:Vy} {lo b:Nat},ot lo b S a->S.length=a.length
 | [],[],_,_,h=>rfl
 |r :: S,h :: a,lo,b,⟨_,_,_,h2⟩=>by have:=ot.len h2;simp only[dJ];omega
 | [],_ :: _,_,_,h=>h.elim
 |r :: S,[],_,_,h=>h.elim
theorem ot.mono:∀{S:List cW} {b:Vy} {lo c a:Nat},ot lo c S b->c<=a->ot lo a S b
 | [],[],_,_,_,h,k=>aE h k
 |r :: S,h :: b,lo,c,a,⟨h1,h2,h3,h4⟩,k=>⟨h1,h2,h3,h4.mono k⟩
 | [],_ :: _,_,_,_,h,_=>h.elim
 |r :: S,[],_,_,_,h,_=>h.elim
theorem ot.head:∀{S:List cW} {b:Vy} {lo d:Nat},ot lo d S b->∀c,c∈ b->lo<=c/\c<d
 | [],[],_,_,h,c,a=>by cases a
 |r :: S,h :: b,lo,d,⟨h1,h2,h3,h4⟩,c,a=>by
  rcases aY.1 a with rfl|a
  . have:=h4.le;omega
  . have:=h4.head c a;omega
 | [],_ :: _,_,_,h,_,_=>h.elim
 |r :: S,[],_,_,h,_,_=>h.elim
theorem ot.zero:∀{S:List cW} {b:Vy} {lo d:Nat},ot lo d S b->∀r,r∈ S->∀c,c<lo->r c=0
 | [],[],_,_,h,r,a,_,_=>by cases a
 |s :: S,h :: b,lo,d,⟨h1,h2,h3,h4⟩,r,a,c,hc=>by
  rcases aY.1 a with rfl|a
  . exact h3 c oO
  . exact h4.zero r a c oO
 | [],_ :: _,_,_,h,_,_,_,_=>h.elim
 |r :: S,[],_,_,h,_,_,_,_=>h.elim
theorem ot.xg:∀{S:List cW} {b:Vy} {lo a c:Nat} {s:cW},ot lo a S b->a<=c->s c≠0->(∀i,i<c->s i=0)->ot lo (c+1) (S++ [s]) (b++ [c])
 | [],[],lo,a,c,s,h,k,h1,h2=>⟨aE h k,h1,h2,aV _⟩
 |r :: S,h :: b,lo,a,c,s,⟨h1,h2,h3,h4⟩,k,k1,k2=>⟨h1,h2,h3,h4.xg k k1 k2⟩
 | [],_ :: _,_,_,_,_,h,_,_,_=>h.elim
 |r :: S,[],_,_,_,_,h,_,_,_=>h.elim
theorem ot.AZ(W:Nat)(f:cW):∀{S:List cW} {a:Vy} {lo b:Nat},ot lo b S a->b<=W->∃x:cW,(∀c,c ∉ a->x c=f c)/\jH W S x
 | [],[],_,_,_,_=>⟨f,fun _ _=>rfl,fun r g=>by cases g⟩
 |r :: S,h :: a,lo,b,⟨h1,h2,h3,h4⟩,hW=>by
  obtain⟨x,i,j⟩:=h4.AZ W f hW;have e:h<W:=oB h4.le;refine⟨qQ x h (x h - dot W r x / r h),fun c d=>?_,jH.cons.2 ⟨?_,fun s a=>?_⟩⟩
  . simp only[aY,not_or]at d;rw[sT _ _ d.1];exact i c d.2
  . rw[It _ _ _ _ _ e]
    grind
  . rw[It _ _ _ _ _ e,j s a,h4.zero s a h oO]
    grind
 | [],_ :: _,_,_,h,_=>h.elim
 |r :: S,[],_,_,h,_=>h.elim
def kR(c:Nat)(s r:cW):cW:=fun i=>r i - s i*(r c / s c)
structure tf (W:Nat) (M:List cW) (c:Nat) (L S:List cW) (hs:Vy):Prop where
 ech:ot 0 c S hs
 zero:∀r,r∈ L->∀i,i<c->r i=0
 null:∀x,jH W M x↔jH W L x/\jH W S x
def tf.start(W:Nat)(M:List cW):tf W M 0 M [] []:=⟨aV _,fun _ _ i b=>oO,fun x=>⟨fun h=>⟨h,fun r a=>by cases a⟩,fun h=>h.1⟩⟩
def tf.skip{M L S:List cW}{a:Vy}(h:tf W M c L S a)(e:∀r,r∈ L->r c=0):tf W M (c+1) L S a:=
 ⟨h.ech.mono (dU _),fun r b i f=>by
   rcases bB i c with d|d
   . exact h.zero r b i d
   . obtain rfl:i=c:=oO
     exact e r b,h.null⟩
def tf.step{j:Nat}{M L S:List cW}{m:Vy}{s:cW}(h:tf W M c L S m)(n:L[j]?=some s)(u:s c≠0):tf W M (c+1) ((L.eraseIdx j).map (kR c s)) (S++ [s]) (m++ [c]):=by
 have b:=mO n;have o:=h.zero s b;refine⟨h.ech.xg lZ u o,fun r d i f=>?_,fun x=>?_⟩
 .
  obtain⟨t,g,rfl⟩:=bZ.1 d;have k:=lO g;unfold kR;rcases bB i c with a|a
  . rw[o i a,h.zero t k i a];grind
  . obtain rfl:i=c:=oO
    grind
 .
  rw[h.null x,jH.app];have p:∀t:cW,dot W s x=0->(dot W (kR c s t) x=0↔dot W t x=0):=fun t a=>by unfold kR;rw[Dw,a];grind
  constructor
  .
   rintro⟨a,l⟩;refine⟨fun r d=>?_,l,fun r d=>?_⟩
   . obtain⟨t,g,rfl⟩:=bZ.1 d
     exact(p t (a s b)).2 (a t (lO g))
   . obtain rfl:r=s:=sU d
     exact a r b
  .
   rintro⟨a,l,v⟩;have q:=v s sS;refine⟨fun r d=>?_,l⟩;obtain⟨i,f⟩:=dS.1 d;by_cases e:i=j
   . subst e;obtain rfl:=aD (n.symm.trans f);exact q
   . have w:=Bj.2 ⟨i,e,f⟩
     exact(p r q).1 (a _ (bZ.2 ⟨r,w,rfl⟩))
def tf.done{M L S:List cW}{a:Vy}(h:tf W M W L S a):ot 0 W S a/\∀x,jH W M x↔jH W S x:=by refine⟨h.ech,fun x=>?_⟩;rw[h.null x];exact⟨fun k=>k.2,fun k=>⟨fun r b=>yY W r x fun c d=>by rw[h.zero r b c d];grind,k⟩⟩
def red(r:cW):List cW->List Nat->cW
 |t :: T,h :: hs=>red (fun i=>r i - t i*r h) T hs
 |_,_=>r
def cln:List cW->List Nat->List cW
 |r :: S,h :: hs=>red (fun i=>r i / r h) (cln S hs) hs :: cln S hs
 |_,_=>[]
def tB:Nat->Nat->List cW->List Nat->Prop
 |lo,hi,[],[]=>lo<=hi
 |lo,hi,r :: S,h :: hs=>lo<=h/\r h=1/\(∀c,c<h->r c=0)/\(∀c,c∈ hs->r c=0)/\tB (h+1) hi S hs
 |_,_,_,_=>False
theorem tB.ech:∀{S:List cW} {a:Vy} {lo b:Nat},tB lo b S a->ot lo b S a
 | [],[],_,_,h=>h
 |r :: S,h :: a,lo,b,⟨h1,h2,h3,_,h4⟩=>⟨h1,by rw[h2];decide,h3,tB.ech h4⟩
 | [],_ :: _,_,_,h=>h.elim
 |r :: S,[],_,_,h=>h.elim
theorem Oc(W:Nat):∀{T:List cW} {a:Vy} {lo f:Nat} (r:cW),tB lo f T a->(∀c,c<lo->red r T a c=r c)/\(∀c,c∈ a->red r T a c=0)/\∀x,jH W T x->dot W (red r T a) x=dot W r x
 | [],[],_,_,r,_=>⟨fun _ _=>rfl,fun c b=>by(cases b),fun _ _=>rfl⟩
 |t :: T,h :: a,lo,f,r,⟨h1,h2,h3,h4,h5⟩=>by
  obtain⟨k1,k2,g⟩:=Oc W (fun i=>r i - t i*r h) h5;refine⟨fun c b=>?_,fun c b=>?_,fun x j=>?_⟩
  . simp only[red];rw[k1 c oO,h3 c oO];grind
  .
   simp only[red];rcases aY.1 b with rfl|b
   . rw[k1 c oO,h2]
     grind
   . exact k2 c b
  . obtain⟨d,e⟩:=jH.cons.1 j;simp only[red];rw[g x e,Dw,d];grind
 | [],_ :: _,_,_,_,h=>h.elim
 |r :: S,[],_,_,_,h=>h.elim
theorem Ir(W:Nat):∀{S:List cW} {a:Vy} {lo d:Nat},ot lo d S a->tB lo d (cln S a) a/\∀x,jH W (cln S a) x↔jH W S x
 | [],[],_,_,h=>⟨h,fun _=>Iff.rfl⟩
 |r :: S,h :: a,lo,d,⟨h1,h2,h3,h4⟩=>by
  obtain⟨k1,k2⟩:=Ir W h4;obtain⟨f,j,g⟩:=Oc W (fun i=>r i / r h) k1;refine⟨⟨h1,?_,fun c k=>?_,j,k1⟩,fun x=>?_⟩
  . rw[f h oO];grind
  . rw[f c oO,h3 c k];grind
  . simp only[cln];rw[jH.cons,jH.cons,k2 x];constructor
    . rintro⟨e,b⟩;rw[g x ((k2 x).2 b),GJ]at e;exact⟨by grind,b⟩
    . rintro⟨e,b⟩;rw[g x ((k2 x).2 b),GJ,e];exact⟨by grind,b⟩
 | [],_ :: _,_,_,h=>h.elim
 |r :: S,[],_,_,h=>h.elim
theorem Iq:∀(S:List cW)(a:Vy),S.length=a.length->(cln S a).length=S.length
 | [],_,_=>rfl
 |r :: S,h :: a,k=>by simp only[cln,dJ];rw[Iq S a (sU k)]
 |r :: S,[],k=>by simp at k
theorem ot.xR:∀{S:List cW} {a:Vy} {lo b:Nat},ot lo b S a->a.length<=b - lo
 | [],[],_,_,_=>cJ _
 |r :: S,h :: a,lo,b,⟨h1,_,_,h4⟩=>by have:=h4.xR;have:=h4.le;simp only[dJ];omega
 | [],_ :: _,_,_,h=>h.elim
 |r :: S,[],_,_,h=>h.elim
theorem ot.DZ:∀{S:List cW} {b:Vy} {lo a:Nat},ot lo a S b->b.length<a - lo->∃c,lo<=c/\c<a/\c ∉ b
 | [],[],lo,a,_,k=>⟨lo,aV _,by simp at k;omega,sS⟩
 |r :: S,h :: b,lo,a,⟨h1,_,_,h4⟩,k=>by
  have f:=h4.le;simp only[dJ]at k;rcases bB lo h with g|g
  . refine⟨lo,aV _,oO,fun d=>?_⟩;rcases aY.1 d with e|e
    . omega
    . have:=(h4.head lo e).1;omega
  . obtain⟨c,c1,c2,c3⟩:=h4.DZ oO;refine⟨c,oO,c2,fun d=>?_⟩;rcases aY.1 d with e|e
    . omega
    . exact c3 e
 | [],_ :: _,_,_,h,_=>h.elim
 |r :: S,[],_,_,h,_=>h.elim
theorem ot.all:∀{S:List cW} {a:Vy} {lo b:Nat},ot lo b S a->a.length=b - lo->∀i h,a[i]?=some h->h=lo+i
 | [],[],lo,b,_,k,i,h,e=>by simp at e
 |r :: S,h :: a,lo,b,⟨h1,_,_,h4⟩,k,i,g,e=>by
  have c:=h4.le;have d:=h4.xR;simp only[dJ]at k;obtain rfl:h=lo:=oO
  match i,e with
  |0,e=>simp at e;omega
  |i+1,e=> have:=h4.all oO i g (sU e);omega
 | [],_ :: _,_,_,h,_,_,_,_=>h.elim
 |r :: S,[],_,_,h,_,_,_,_=>h.elim
theorem ot.oz:∀{S:List cW} {a:Vy} {lo n:Nat},ot lo (n+1) S a->lo<=n->n ∉ a->ot lo n S a
 | [],[],lo,n,_,k,_=>k
 |r :: S,h :: a,lo,n,⟨h1,h2,h3,h4⟩,k,hn=>by have b:=h4.le;simp only[aY,not_or]at hn;exact⟨h1,h2,h3,h4.oz oO hn.2⟩
 | [],_ :: _,_,_,h,_,_=>h.elim
 |r :: S,[],_,_,h,_,_=>h.elim
theorem ot.row:∀{S:List cW} {b:Vy} {lo d:Nat},ot lo d S b->∀h,h∈ b->∃r,r∈ S/\r h≠0/\∀c,c<h->r c=0
 | [],[],_,_,_,h,a=>by cases a
 |r :: S,k :: b,lo,d,⟨h1,h2,h3,h4⟩,h,a=>by
  rcases aY.1 a with rfl|a
  . exact⟨r,dT,h2,h3⟩
  . obtain⟨s,e,f⟩:=h4.row h a
    exact⟨s,bU _ e,f⟩
 | [],_ :: _,_,_,h,_,_=>h.elim
 |r :: S,[],_,_,h,_,_=>h.elim
theorem tB.at:∀{S:List cW} {d:Vy} {lo f:Nat},tB lo f S d->∀(i:Nat)(r:cW)(h:Nat),S[i]?=some r->d[i]?=some h->r h=1/\(∀c,c<h->r c=0)/\∀c,c∈ d->h<c->r c=0
 | [],[],_,_,_,i,r,h,e,_=>by simp at e
 |s :: S,k :: d,lo,f,⟨h1,h2,h3,h4,h5⟩,i,r,h,e,e'=>by
  match i,e,e' with
  |0,e,e'=>
   simp at e e';subst e;subst e';refine⟨h2,h3,fun c a b=>?_⟩;rcases aY.1 a with rfl|a
   . omega
   . exact h4 c a
  |i+1,e,e'=>
   obtain⟨g,j,l⟩:=h5.at i r h (sU e) (sU e');refine⟨g,j,fun c a b=>?_⟩;rcases aY.1 a with rfl|a
   . have:=(h5.ech.head h (mO (sU e'))).1
     omega
   . exact l c a b
 | [],_ :: _,_,_,h,_,_,_,_,_=>h.elim
 |r :: S,[],_,_,h,_,_,_,_,_=>h.elim
def iz(wide:Nat)(r:cW)(v:Rat):cW:=fun c=>if c=wide then v else r c
def VA(wide:Nat)(r:cW)(v:Rat)(y:cW):dot (wide+1) (iz wide r v) y=dot wide r y+v*y wide:=by simp only[dot];rw[rG wide (iz wide r v) y r y (fun c a=>by unfold iz;rw[aH oO])];unfold iz;rw[aN rfl]
def sH(wide:Nat)(M:List cW)(b:AL)(x:cW):Prop:=∀(i:Nat)(r:cW)(v:Rat),M[i]?=some r->b[i]?=some v->dot wide r x=v
def tV{wide:Nat}{M:List cW}{x:cW}:sH wide M b x↔jH (wide+1) (List.zipWith (iz wide) M b) (iz wide x (-1)):=by
 have e:∀(r:cW)(v:Rat),dot (wide+1) (iz wide r v) (iz wide x (-1))=dot wide r x - v:=fun r v=>by rw[VA,rG wide r (iz wide x (-1)) r x (fun c g=>by unfold iz;rw[aH oO])];unfold iz;rw[aN rfl];grind
 constructor
 .
  intro h r d;obtain⟨i,a⟩:=dS.1 d;rw[uy]at a
  match hm:M[i]?,hb:b[i]?,a with
  |some m,some v,a=> simp at a;subst a;rw[e,h i m v hm hb];grind
  |none,_,a=>simp at a
  |some m,none,a=>simp at a
 . intro h i r v d f;have:=h (iz wide r v) (dS.2 ⟨i,by rw[uy,d,f]⟩);rw[e]at this;grind
def Ob{wide:Nat}{M:List cW}{S:List cW}(h:ot 0 (wide+1) S d)(e:∀x,jH (wide+1) (List.zipWith (iz wide) M b) x↔jH (wide+1) S x)(f:wide∈ d)(x:cW):¬sH wide M b x:=by intro g;have i:=(e _).1 (tV.1 g);obtain⟨r,j,m,k⟩:=h.row wide f;have a:=i r j;rw[B8 (wide+1) r _ wide oO (fun c n l=>by rw[k c oO];grind)]at a;unfold iz at a;rw[aN rfl]at a;grind
def Oa{wide:Nat}{M:List cW}{S:List cW}(h:ot 0 (wide+1) S d)(k:∀x,jH (wide+1) (List.zipWith (iz wide) M b) x↔jH (wide+1) S x)(j:wide ∉ d)(hl:d.length<wide):
 ∃x y:cW,sH wide M b x/\sH wide M b y/\∃c,c<wide/\x c≠y c:=by
 obtain⟨c,_,c2,c3⟩:=(h.oz (cJ _) j).DZ oO;have a:∀f:cW,∃x:cW,(∀i,i ∉ d->i≠wide->x i=f i)/\sH wide M b x:=fun f=>by
  obtain⟨y,y1,y2⟩:=h.AZ (wide+1) (iz wide f (-1)) lZ;refine⟨y,fun i l g=>?_,tV.2 ?_⟩
  . rw[y1 i l];unfold iz;rw[aH g]
  .
   rw[k];have e:iz wide y (-1)=y:=by
    funext i;unfold iz;by_cases e:i=wide
    . subst e;rw[aN rfl,y1 i j];unfold iz;rw[aN rfl]
    . rw[aH e]
   rw[e];exact y2
 obtain⟨x,x1,x2⟩:=a (fun _=>0);obtain⟨y,y1,y2⟩:=a (fun _=>1);refine⟨x,y,x2,y2,c,c2,?_⟩;rw[x1 c c3 oO,y1 c c3 oO];decide
def N9{wide:Nat}{M:List cW}{S:List cW}{a:Vy}(h:ot 0 (wide+1) S a)(t:∀x,jH (wide+1) (List.zipWith (iz wide) M b) x↔jH (wide+1) S x)(v:wide ∉ a)(hl:¬a.length<wide):
 a.length=wide/\(∀i h:Nat,a[i]?=some h->h=i)/\∀x:cW,sH wide M b x↔∀(i:Nat)(r:cW),(cln S a)[i]?=some r->x i=r wide:=by
 have o:=h.oz (cJ _) v;have w:=o.xR;have j:a.length=wide:=oO;have d:∀i h:Nat,a[i]?=some h->h=i:=fun i k e=>oB (o.all oO i k e)
 refine⟨j,d,fun x=>?_⟩;obtain⟨k1,k2⟩:=Ir (wide+1) h;rw[tV,t,<-k2];have p:∀(i:Nat)(r:cW),(cln S a)[i]?=some r->dot (wide+1) r (iz wide x (-1))=x i - r wide:=fun i r f=>by
  have l:i<wide:=by have m:=(gZ f).1;rw[Iq S a h.len,h.len]at m;omega
  obtain⟨g,q⟩:∃g,a[i]?=some g:=⟨a[i]' oO,gE oO⟩;obtain rfl:=d i g q;obtain⟨y,z,A⟩:=k1.at _ r _ f q;simp only[dot];rw[B8 wide r _ g l (fun c w B=>?_),y]
  . unfold iz;rw[aN rfl,aH oO];grind
  .
   have:r c=0:=by
    rcases bB c g with m|m
    . exact z c m
    . refine A c ?_ oO;obtain⟨u,s⟩:∃u,a[c]?=some u:=⟨a[c]' oO,gE oO⟩;obtain rfl:=d c u s;exact mO s
   rw[this];grind
 constructor
 . intro n i r f;have:=n r (mO f);rw[p i r f]at this;grind
 . intro n r f;obtain⟨i,l⟩:=dS.1 f;rw[p i r l,n i r l];grind
namespace Sg
theorem No:∀(M N:Nat)(f:Nat→Nat),M<N→(∀n,n<N→f n<M)→∃a b,a<b∧b<N∧f a=f b
 |0,N,f,h,hf=>absurd (hf 0 (by omega)) (by omega)
 |M+1,0,f,h,hf=>absurd h (by omega)
 |M+1,N+1,f,h,hf=>by
  by_cases i:∃a,a<N∧f a=f N
  · obtain⟨a,j,e⟩:=i
    exact⟨a,N,j,by omega,e⟩
  ·
   have c:∀n,n<N→f n≠f N:=fun n d e=>i ⟨n,d,e⟩
   obtain⟨a,b,g,hb,e⟩:=No M N (fun n=>if f N<f n then f n - 1 else f n) (by omega) (fun n d=>by
    have k:=hf n (by omega);have l:=hf N (by omega);have m:=c n d
    show (if f N<f n then f n - 1 else f n)<M
    split<;>omega)
   refine⟨a,b,g,by omega,?_⟩;have k:=c a (by omega);have l:=c b hb
   split at e<;>split at e<;>omega
def isum:Nat→(Nat→Int)→Int
 |0,_=>0
 |n+1,f=>isum n f+f n
theorem Nn:∀(n:Nat)(f g:Nat→Int),isum n (fun j=>f j - g j)=isum n f - isum n g
 |0,_,_=>by simp[isum]
 |n+1,f,g=>by simp only[isum,Nn n f g];omega
theorem Nl:∀(n:Nat)(f g:Nat→Int),(∀j,j<n→f j=g j)→isum n f=isum n g
 |0,_,_,_=>rfl
 |n+1,f,g,h=>by simp only[isum];rw[Nl n f g (fun j a=>h j (by omega)),h n (by omega)]
theorem isum_le:∀(n:Nat)(f:Nat→Int)(l u:Int),(∀j,j<n→l≤f j∧f j≤u)→n*l≤isum n f∧isum n f≤n*u
 |0,_,_,_,_=>by simp[isum]
 |n+1,f,l,u,h=>by
  have c:=isum_le n f l u (fun j d=>h j (by omega));have e:=h n (by omega);simp only[isum];have a:((n+1:Nat):Int)*l=n*l+l:=by rw[Int.natCast_add,Int.add_mul];simp
  have b:((n+1:Nat):Int)*u=n*u+u:=by rw[Int.natCast_add,Int.add_mul];simp
  rw[a,b];omega
def dig(B n j:Nat):Nat:=n / B ^ j % B
def JR(hB:0<B)(n j:Nat):dig B n j<B:=Nat.mod_lt _ hB
theorem Nk(hB:0<B):∀(k m n:Nat),m<B ^ k→n<B ^ k→(∀j,j<k→dig B m j=dig B n j)→m=n
 |0,m,n,hm,hn,_=>by simp at hm hn;omega
 |k+1,m,n,hm,hn,h=>by
  have a:m % B=n % B:=by have:=h 0 (by omega);simpa [dig] using this
  have b:=Nk hB k (m / B) (n / B) (by rw[Nat.div_lt_iff_lt_mul hB];rwa [Nat.pow_succ]at hm) (by rw[Nat.div_lt_iff_lt_mul hB];rwa [Nat.pow_succ]at hn) (fun j c=>by
   have:=h (j+1) (by omega);simp only[dig]at this ⊢;rw[Nat.div_div_eq_div_mul,Nat.div_div_eq_div_mul,←Nat.pow_succ']
   exact this)
  rw[←Nat.div_add_mod m B,←Nat.div_add_mod n B,a,b]
def code(D:Nat)(v:Nat→Nat):Nat→Nat
 |0=>0
 |k+1=>code D v k+v k*D ^ k
theorem Iz{v:Nat→Nat}:∀(k:Nat),(∀i,i<k→v i<D)→code D v k<D ^ k
 |0,_=>by simp[code]
 |k+1,h=>by
  have b:=Iz k (fun i c=>h i (by omega));have a:=h k (by omega);simp only[code,Nat.pow_succ];have d:v k*D ^ k+D ^ k≤D ^ k*D:=by rw[Nat.mul_comm (D ^ k) D,←Nat.succ_mul];exact Nat.mul_le_mul_right _ a
  omega
theorem Nj{v u:Nat→Nat}:∀(k:Nat),(∀i,i<k→v i<D)→(∀i,i<k→u i<D)→code D v k=code D u k→∀i,i<k→v i=u i
 |0,_,_,_,i,a=>absurd a (by omega)
 |k+1,hv,hu,e,i,a=>by
  have d:=Iz k (fun i a=>hv i (by omega));have f:=Iz k (fun i a=>hu i (by omega));simp only[code]at e;have c:v k=u k:=by
   have g:(code D v k+v k*D ^ k) / D ^ k=v k:=by rw[Nat.add_mul_div_right _ _ (by omega),Nat.div_eq_of_lt d,Nat.zero_add]
   have h:(code D u k+u k*D ^ k) / D ^ k=u k:=by rw[Nat.add_mul_div_right _ _ (by omega),Nat.div_eq_of_lt f,Nat.zero_add]
   rw[←g,e,h]
  rw[c]at e;by_cases b:i=k
  · rw[b];exact c
  · exact Nj k (fun i a=>hv i (by omega)) (fun i a=>hu i (by omega)) (by omega) i (by omega)
def Rt{a:Nat}{z:Int}(h: -(a:Int)≤z∧z≤a)(b:x≤B): -((a*B:Nat):Int)≤z*x∧z*x≤((a*B:Nat):Int):=by
 have c:z.natAbs≤a:=by omega
 have d:(z*x).natAbs≤a*B:=by rw[Int.natAbs_mul,Int.natAbs_natCast];exact Nat.mul_le_mul c b
 omega
def siegel(k a:Nat)(s:0<a)(A:Nat→Nat→Int)(t:∀i j,i<k→j<k+1→ -(a:Int)≤A i j∧A i j≤a):
 ∃y:Nat→Int,(∃j,j<k+1∧y j≠0)∧(∀i,i<k→isum (k+1) (fun j=>A i j*y j)=0)∧∀j,(y j).natAbs≤(2*((k+1)*a)) ^ k:=by
 obtain⟨E,d⟩:∃E,2*((k+1)*a)=E:=⟨_,rfl⟩;have u:0<E:=by rw[←d];exact Nat.mul_pos (by omega) (Nat.mul_pos (by omega) s)
 rw[d];obtain⟨B,hB⟩:∃B,E ^ k=B:=⟨_,rfl⟩;rw[hB];have c:0<B+1:=by omega
 obtain⟨H,o⟩:∃H,(k+1)*(a*B)=H:=⟨_,rfl⟩;have v:E*B=2*H:=by rw[←d,←o,Nat.mul_assoc,Nat.mul_assoc]
 have f:=fun n i b=>by have:=isum_le (k+1) (fun j=>A i j*(dig (B+1) n j:Int)) (-((a*B:Nat):Int)) ((a*B:Nat):Int) (fun j g=>Rt (t i j b g) (by have:=JR c n j;omega));rw[Int.mul_neg,←Int.natCast_mul,o]at this;exact this
 have h:∀n i,i<k→(isum (k+1) (fun j=>A i j*(dig (B+1) n j:Int))+H).toNat<E*B+1:=fun n i b=>by have:=f n i b;omega
 obtain⟨m,n,w,x,e⟩:=No ((E*B+1) ^ k) ((B+1) ^ (k+1)) (fun n=>code (E*B+1) (fun i=>(isum (k+1) (fun j=>A i j*(dig (B+1) n j:Int))+H).toNat) k)
  (by
    have l:(E*B+1) ^ k≤(E*(B+1)) ^ k:=Nat.pow_le_pow_left (by rw[Nat.mul_add];omega) k;rw[Nat.mul_pow,hB]at l;have p:0<(B+1) ^ k:=Nat.pow_pos c;have q:(B+1) ^ k*(B+1)=B*(B+1) ^ k+(B+1) ^ k:=by rw[Nat.mul_add,Nat.mul_one,Nat.mul_comm]
    rw[Nat.pow_succ,q]
    omega)
  (fun n _=>Iz k (fun i b=>h n i b))
 have z:=Nj k (fun i b=>h m i b) (fun i b=>h n i b) e;refine⟨fun j=>(dig (B+1) m j:Int) - (dig (B+1) n j:Int),?_,fun i b=>?_,fun j=>?_⟩
 ·
  by_cases r:∃j,j<k+1∧(dig (B+1) m j:Int) - (dig (B+1) n j:Int)≠0
  · exact r
  ·
   exfalso
   have:=Nk c (k+1) m n (by omega) x (fun j g=>by
    by_cases C:(dig (B+1) m j:Int) - (dig (B+1) n j:Int)=0
    · omega
    · exact absurd ⟨j,g,C⟩ r)
   omega
 ·
  have l:=z i b;have p:=f m i b;have q:=f n i b;have D:=Nn (k+1) (fun j=>A i j*(dig (B+1) m j:Int)) (fun j=>A i j*(dig (B+1) n j:Int));rw[Nl (k+1) _ (fun j=>A i j*(dig (B+1) m j:Int) - A i j*(dig (B+1) n j:Int)) (fun j _=>Int.mul_sub _ _ _),D];omega
 ·
  have l:=JR c m j;have p:=JR c n j
  show ((dig (B+1) m j:Int) - (dig (B+1) n j:Int)).natAbs≤B
  omega
end Sg
def vec(l:AL):cW:=fun i=>l.getD i 0
structure Fr (w w':Vz):Prop where
 size:w.heap.size<=w'.heap.size
 keep:∀b i u,w.cell? ⟨b,i,none⟩=some u->((∃x,u=Value.bool x)∨∃n,u=Value.int .u64 n)->w'.heap[b]?=w.heap[b]?
def Fr.cell(h:Fr w w'){b:Nat}(a:w.cell? ⟨b,i,none⟩=some u)(hk:(∃x,u=Value.bool x)∨∃n,u=Value.int .u64 n)(j:Nat):w'.cell? ⟨b,j,none⟩=w.cell? ⟨b,j,none⟩:=
 bJ (w:=w) (h.keep b i u a hk)
def Fr.trans{u v:Vz}(h:Fr u v)(k:Fr v w):Fr u w:=
 ⟨aE h.size k.size,fun b i x a hk=>(k.keep b i x ((h.cell a hk i).trans a) hk).trans (h.keep b i x a hk)⟩
def Fr.eK{w w':Vz}(h:Bl w w'):Fr w w':=⟨h.size,fun b i u a _=>h.block b (bI _ _ a)⟩
def vC:=@Fr.eK
def Plain(C:Vw):Prop:=∀u,u∈ C.toList->(∀x,u≠Value.bool x)/\∀n,u≠Value.int .u64 n
def Fr.iw{w w':Vz}{g:Nat}{t:Vr}{C:Vw}(c:cE g w w')(d:SB w g t C)(hC:Plain C):Fr w w':=by
 refine⟨c.size,fun b i u a hk=>c.block b (bI _ _ a) ?_⟩;rintro rfl;rw[d.cell]at a;obtain⟨f,h⟩:=hC u (mO (by rw[dF];exact a));rcases hk with ⟨x,e⟩|⟨n,e⟩
 . exact f x e
 . exact h n e
def CZ:=@Fr.iw
def Row.fr{l:Vy}(h:Row .u64 w a cap l)(c:Fr w w'):Row .u64 w' a cap l:=by
 refine⟨h.fit,?_,fun i g=>?_⟩
 .
  rcases h.shape with d|⟨e,b,rfl,j⟩
  . exact .inl d
  . exact .inr ⟨e,b,rfl,by have:=c.size;omega⟩
 . obtain⟨e,b,d,j,f⟩:=h.cell i g
   exact⟨e,b,d,by have:=c.size;omega,(c.cell f (.inr ⟨_,rfl⟩) _).trans f⟩
def mz.fr(h:mz w a n c x)(b:Fr w w'):mz w' a n c x:=by obtain⟨l,hl,h⟩:=h;exact⟨l,hl,h.row.fr b,h.num,h.short⟩
def eF.fr{q:Rat}(h:eF w v q)(g:Fr w w'):eF w' v q:=by
 obtain⟨neg,a,n,c,b,m,d,e,h⟩:=h;refine⟨neg,a,n,c,b,m,d,e,h.neg,h.top.fr g,?_⟩;rcases h.low with f|⟨f,i⟩
 . exact .inl f
 . exact .inr ⟨f,i.fr g⟩
def lK.fr{d:Ah}(h:lK w a cap d)(f:Fr w w'):lK w' a cap d:=by refine⟨⟨h.row.fit,⟨fun j u k=>?_⟩⟩,fun t l=>⟨(h.ts t l).1.fr f,(h.ts t l).2⟩⟩;obtain⟨b,g,m,hb,s⟩:=h.row.row.cell j u k;have i:=(gZ k).1;rw[xz (sz:=3) (fun _=>rfl)]at i;obtain⟨e,o⟩:∃e,d[j / 3]?=some e:=⟨d[j / 3]' oO,gE oO⟩;obtain⟨v,p,c,_,q,_⟩:=h.at o;rw[m]at c;cases c;obtain⟨n,x,y,z,A,B,C,r,_⟩:=(h.get o).1;simp at r;rw[r.1]at q;refine⟨b,g,m,aF hb f.size,?_⟩;rw[f.cell q (.inl ⟨_,rfl⟩)];exact s
structure Grow (w:Vz) (B:Nat) (e:Vr) (sz:Nat) (K:Ay) (v:Ac) (n:Nat) (xs:Vv):Prop where
 own:w.ownsRow B e sz v n xs
 all:∀g,v.ownBlock=some g->∃C,w.heap[g]?=some (.cells C e (0,0))/\∀u,u∈ C.toList->K u
def Grow.nil(w:Vz)(B:Nat)(e:Vr)(sz:Nat)(K:Ay):Grow w B e sz K (.slice none 0 0) 0 []:=⟨pH w B e sz,fun g a=>by simp[Value.ownBlock]at a⟩
def pA:=@Grow.nil
def Grow.keep{K:Ay}(h:Grow w B e sz K v n xs)(hk:∀g,v.ownBlock=some g->w'.heap[g]?=w.heap[g]?):Grow w' B e sz K v n xs:=by
 refine⟨⟨h.own.1,?_⟩,fun g a=>?_⟩
 .
  rcases h.own.2 with b|⟨g,cap,c,rfl,hb,a,d⟩
  . exact .inl b
  . exact .inr ⟨g,cap,c,rfl,hb,by rw[hk g rfl];exact a,d⟩
 . obtain⟨C,b,d⟩:=h.all g a
   exact⟨C,by rw[hk g a];exact b,d⟩
def MM{z:Vw}(a:u∈ (Builtin.zeroCells z n).toList):u∈ z.toList:=by
 simp[Builtin.zeroCells]at a;obtain⟨j,b,e⟩:=a;have c:0<z.size:=by
  rcases eE z.size with h|h
  . rw[h]at b;omega
  . exact h
 rw[getElem!_pos z (j % z.size) (eU _ c)]at e;rw[<-e];exact Array.getElem_mem_toList _
def Grow.app{P:Au}{ty:Vr}{i:AT}{z:Ac}{bytes:Nat}{K:Ay}(h:Grow w B e sz K v n xs)(R:P.underlying t=some (.slice e))(S:P.info? e=some i)(T:i.zero=some z)(f:i.size=sz)(q:i.bytes=bytes)(U:z.cells.size=sz)(V:0<sz)(I:∀u,u∈ z.cells.toList->K u)(a:Addr)(m c:Nat)(b:Vv)(hl:b.length=m*sz)(k:∀j u,b[j]?=some u->w.cell? (a.add j)=some u)(h1:∀u,u∈ b->u.oneCell'=true)(W:∀u,u∈ b->K u)(X:n+m<=1048576)(J:bytes<=1000)(r:B<=w.heap.size):
 ∃H w',(Builtin.append_ #[t,t] ty #[v,.slice (some a) m c]).run P w=.ok H w'/\Grow w' B e sz K H (n+m) (xs++b)/\w.grownBy w' v.ownBlock/\(H.ownBlock=v.ownBlock∨H.ownBlock=some w.heap.size):=by
 have Y:=fO X J;obtain⟨H,w',s,L,x,M,Z⟩:=run_append_own_at (P:=P) w B t ty e i z sz bytes R S T f q U V v n xs h.own a m c b hl k h1 mZ oO r;refine⟨H,w',s,⟨L,?_⟩,x,Z⟩;have o:b.length=m*i.size:=by rw[f];exact hl
 have aa:xs.length=n*i.size:=by rw[f];exact h.own.1
 have p:∀(C:Vw)(w1:Vz)(n cap:Nat),(∀u,u∈ C.toList->K u)->∀g,(Value.slice (some ⟨w1.heap.size,0,none⟩) n cap).ownBlock=some g->∃D,(w1.drew.alloc (.cells C e)).heap[g]?=some (.cells D e (0,0))/\∀u,u∈ D.toList->K u:=fun C w1 n cap hC g y=>by
  have e:w1.heap.size=g:=by simpa [Value.ownBlock] using y
  subst e;exact⟨C,jz w1.drew _,hC⟩
 rcases h.own.2 with ⟨rfl,rfl⟩|⟨g,cap,A,rfl,ae,y,af,ag,ab,E⟩
 .
  by_cases hm:m=0
  . rw[M.2 ⟨rfl,hm⟩]
    exact fun g y=>by simp[Value.ownBlock]at y
  rw[Hr (P:=P) w t ty e i z R S T a m c b o k oO oO (by rw[q];simp only[cC]at Y;omega)]at s;injection s with N O
  subst N;subst O;refine p _ w _ _ fun u d=>?_
  simp only[Za,bD]at d;rcases d with d|d
  . exact W u d
  . exact I u (MM d)
 .
  obtain⟨C,hC,F⟩:=h.all g rfl;rw[y]at hC;injection hC with hC
  injection hC with hC _ _
  subst hC;by_cases l:n+m<=cap
  .
   have Q:n*i.size+b.length<=A.size:=by rw[o,ab,f,<-jB];exact cD _ l
   rw[Fh (P:=P) w t ty e i R S g n cap A y a m c b o k h1 l Q]at s;injection s with N O
   subst N;subst O;intro g' ad;have e:g=g':=by simpa [Value.ownBlock] using ad
   subst e;refine⟨_,wP w g A _ e _ y,fun u d=>?_⟩;simp only[ik,bD]at d;rcases d with (d|d)|d
   . exact F u (dR d)
   . exact W u d
   . exact F u (fR d)
  .
   have G:=h.own.cells (g:=g) rfl;rw[Fi (P:=P) w t ty e i z R S T ⟨g,0,none⟩ n cap xs aa G a m c b o k oO oO (by rw[q];exact wQ oO oO)]at s;injection s with N O
   subst N;subst O;refine p _ w _ _ fun u d=>?_
   simp only[Za,bD]at d;rcases d with (d|d)|d
   . rw[<-E]at d
     exact F u (dR d)
   . exact W u d
   . exact I u (MM d)
def MR.val(r:MR):Value:=.slice r.a r.ts.length r.cap
def IA(rs:AA):rs.flatMap MR.cells=rs.map MR.val:=by
 induction rs with
 |nil=>rfl
 |cons r l a=>rw[fJ,a];rfl
def jy(u:Ac):Prop:=∃a n c,u=Value.slice a n c
def R9(rs:AA):∀u,u∈ rs.map MR.val->jy u:=fun u a=>by obtain⟨r,_,rfl⟩:=bZ.1 a;exact⟨_,_,_,rfl⟩
def R8(rs:AA):∀u,u∈ rs.map MR.val->u.oneCell'=true:=fun u a=>by obtain⟨r,_,rfl⟩:=bZ.1 a;rfl
def jy.plain{C:Vw}(h:∀u,u∈ C.toList->jy u):Plain C:=fun u b=>by obtain⟨a,n,c,rfl⟩:=h u b;exact⟨fun x=>sS,fun n=>sS⟩
def vB:=@jy.plain
def FE.re(K:Nat)(t:FE):FE:=⟨t.x,t.y,t.z,t.q,K⟩
def R7(K:Nat)(a:Ah):(a.map (FE.re K)).flatMap FE.cells=a.flatMap FE.cells:=by
 induction a with
 |nil=>rfl
 |cons t l b=>rw[dY,fJ,b,fJ];rfl
def lK.re{b:Ah}(h:lK w a cap b)(d:0<K)(e:∀t,t∈ b->Fits t.q K):lK w a cap (b.map (FE.re K)):=by refine⟨⟨by rw[bF];exact h.row.fit,by rw[R7];exact h.row.row⟩,fun t f=>?_⟩;obtain⟨u,c,rfl⟩:=bZ.1 f;exact⟨(h.ts u c).1,e u c,d⟩
structure vw (w:Vz) (W K:Nat) (r:MR):Prop where
 row:lK w r.a r.cap r.ts
 len:r.ts.length=W
 sz:∀t,t∈ r.ts->t.k<=K
def vw.fr{r:MR}(h:vw w W K r)(a:Fr w w'):vw w' W K r:=⟨h.row.fr a,h.len,h.sz⟩
def wB(w:Vz)(W K:Nat)(rs:AA):Prop:=∀r,r∈ rs->vw w W K r
def wB.fr{rs:AA}(h:wB w W K rs)(a:Fr w w'):wB w' W K rs:=fun r b=>(h r b).fr a
def MR.q_beyond{r:MR}{i:Nat}(h:r.ts.length<=i):r.q i=0:=by unfold MR.q;rw[aC,aO (sU h)];rfl
def ob:=@MR.q_beyond
def Di(r:MR):qAt r.ts=r.q:=rfl
def vw.yF{us:Ah}{r:MR}{f:Nat->Rat->Rat}{v:cW}(hb:iQ w g us)(o:r.ts.length=W)(m:Made f B r.ts us r.ts.length)(p:0<K)(s:∀i,i<W->f i (r.q i)=v i)(x:∀i,W<=i->v i=0)(b:∀i,i<W->Fits (v i) K):
 ∃k:MR,k.val=.slice (some ⟨g,0,none⟩) W W/\vw w W K k/\k.q=v:=by
 have a:us.length=W:=by rw[m.1];exact o
 have c:∀i u,us[i]?=some u->u.q=v i:=fun i u d=>by
  have j:i<W:=by rw[<-a];exact(gZ d).1
  obtain⟨e,n⟩:∃e,r.ts[i]?=some e:=⟨r.ts[i]' oO,gE oO⟩;obtain⟨A,y,z,_⟩:=m.2 i e oO n;obtain rfl:=aD (d.symm.trans y);rw[z,<-nQ n];exact s i j
 refine⟨⟨some ⟨g,0,none⟩,us.length,us.map (FE.re K)⟩,?_,⟨?_,by simp[a],fun t l=>?_⟩,?_⟩
 . simp[MR.val,a]
 . refine hb.row.re p fun t l=>?_
   obtain⟨i,j⟩:=dS.1 l;rw[c i t j];exact b i (by rw[<-a];exact(gZ j).1)
 . obtain⟨u,_,rfl⟩:=bZ.1 l
   exact aV _
 .
  funext i;rcases bB i W with h|h
  . obtain⟨u,d⟩:∃u,us[i]?=some u:=⟨us[i]' oO,gE oO⟩;rw[nQ (e:=FE.re K u) (by simp[d])];exact c i u d
  . rw[MR.q_beyond (by simpa [a] using h),x i h]
def ML:∀u,u∈ (Value.slice none 0 0).cells.toList->jy u:=fun u a=>by
 have e:(Value.slice none 0 0).cells=#[.slice none 0 0]:=by rfl
 rw[e]at a;obtain rfl:u=_:=sU a;exact⟨_,_,_,rfl⟩
def Grow.yF(w:Vz)(e:Vr)(sz:Nat)(K:Ay):Grow (w.alloc (.cells #[] e)) w.heap.size e sz K (.slice (some ⟨w.heap.size,0,none⟩) 0 0) 0 []:=
 ⟨oU w #[] 0 lZ (cJ _) sS,fun g a=>by
   have e:w.heap.size=g:=by simpa [Value.ownBlock] using a
   subst e
   exact⟨#[],cK w _ _,fun u b=>by simp at b⟩⟩
def R6(a:Vx)(cap:Nat)(rs:AA)(w:Vz)(h:eO MR.cells w a cap rs)(hl:rs.length<=1000):
 Calls prog 187 #[.slice a rs.length cap] w fun e w'=>(∃v,e=.returned v/\Grow w' w.heap.size 90 1 jy v rs.length (rs.map MR.val))/\Below w.heap.size w w':=by
 obtain⟨G,s,f,g,hz2⟩:=me GD;have I:∀(w:Vz)(a:Vx)(n c n' t:Nat),(binOp .eql 141 (.slice a n c) (.slice none n' t)).run prog w=.ok (.bool a.isNone) w:=fun w a n c n' t=>Lib.run_eql_slice_nil w _ _ a n c n' t underlying141
 have H:=Hi h;clear h;cases a with
 |none=>
  have x:rs= []:=by
   cases rs with
   |nil=>rfl
   |cons r l=> obtain⟨b,y,e,_⟩:=H.o.at (sz:=1) (fun _=>rfl) dD (i:=0) (e:=r) rfl;cases e
  subst x;clear s f g hz2;go_enter func187,ntmps187;go_wp2;go_ret;exact⟨⟨_,rfl,pA _ _ _ _ _⟩,ac _ _⟩
 |some ad=>
  obtain⟨W,hW⟩:=nm (w.alloc (.cells #[] 90));have d:Bl w W:=by rw[<-hW];exact(ac _ _).alloc lZ _
  have m:Grow W w.heap.size 90 1 jy (.slice (some ⟨w.heap.size,0,none⟩) 0 0) 0 []:=by rw[<-hW];exact Grow.yF w _ _ _
  obtain⟨J,w',z,p,q,A⟩:=m.app (P:=prog) (ty:=141) underlying141 s f g hz2 rfl dD ML ad rs.length cap (rs.map MR.val) sS (fun j u B=>by
   rw[<-IA]at B;obtain⟨b,y,e,hb,C⟩:=H.o.row.cell j u B;cases e;rw[xA]
   exact ce d hb C) (R8 rs) (R9 rs) oO dD d.size
  rw[<-hW]at z;obtain⟨D,E,F⟩:=Ib z p (d.grown q d.size (fun k hk=>by simp[Value.ownBlock]at hk;omega));clear z p q A m d hW s f g hz2;go_enter func187,ntmps187;go_wp2_with (at_builtin;refine Gy _ rfl _ _ 141 141 rfl (.slice (some ⟨w.heap.size,0,none⟩) 0 0) (.slice (some ad) rs.length cap) _ _ rfl rfl D.o ?_);go_wp2;go_ret;refine⟨⟨_,rfl,?_⟩,F.o⟩;have:=E.o;rw[cC,cH]at this;exact this
def lT(C:Vw):Nat->List Value->Array Value
 |_,[]=>C
 |o,v :: r=>lT (C.setIfInBounds o v) (o+1) r
theorem Fw:∀(vs:Vv)(o:Nat)(C:Vw),(lT C o vs).size=C.size
 | [],_,_=>rfl
 |v :: r,o,C=>by rw[lT,Fw r];simp
theorem JT:∀(vs:Vv)(o:Nat)(C:Vw) (i:Nat),o+vs.length<=C.size->(lT C o vs)[i]?=if o<=i/\i<o+vs.length then vs[i - o]? else C[i]?
 | [],o,C,i,_=>by rw[aH (by simp only[iU];omega)];rfl
 |v :: r,o,C,i,h=>by
  simp only[dJ]at h;rw[lT,JT r (o+1) _ i sO,gG];by_cases a:i=o
  . subst a;rw[aH oO,aN rfl,aN oO,aN (by simp only[dJ];omega)];simp
  .
   by_cases b:o+1<=i/\i<o+1+r.length
   . rw[aN b,aN (by simp only[dJ];omega),show i - o=(i - (o+1))+1 by omega]
     simp
   . rw[aH b,aH (gH a),aH (by simp only[dJ];omega)]
theorem SB.cells:∀(vs:Vv)(o:Nat) {w:Vz} {C:Vw},SB w g t C->SB (w.setCells g o vs) g t (lT C o vs)/\cE g w (w.setCells g o vs)
 | [],_,w,_,h=>⟨h,cX _ _⟩
 |v :: r,o,w,C,h=>by obtain⟨a,b⟩:=SB.cells r (o+1) (h.set o v);exact⟨a,((cX g w).setCell o v).trans b⟩
def R5:∀w,(zeroValue 90).run prog w=.ok (.slice none 0 0) w:=by intro w;obtain⟨i,a,h⟩:=aZ.1 GD;simp only[fZ]at h;simp[zeroValue,typeInfo,a,h.1]
def R4(g a cap i j n:Nat)(C:Vw)(w:Vz)(B:SB w g 90 C)(p:a=0)(x:∀u,u∈ C.toList->jy u)(T:n<=cap)(D:C.size=cap)(y:cap<=maxLen)(J:i<j)(U:j<=n):
 Calls prog 189 #[.slice (some ⟨g,a,none⟩) n cap,.int .i64 i,.int .i64 j] w fun e w'=>e=.returned (.slice (some ⟨g,a,none⟩) (i+(n - j)) cap)/\
  w'=(w.drew.setCells g (a+i*1) ((C.toList.take n).drop j)).setCells g (a+(i+(n - j))) (List.replicate (n - (i+(n - j))) (.slice none 0 0)):=by
 obtain⟨K,E,F,G,hz2⟩:=me GD;have I:cap<=9223372036854775807:=by simpa [maxLen] using y
 have d:∀k,w.cell? ⟨g,a+k,none⟩=C[k]?:=fun k=>by rw[p,cC];exact B.cell k
 have f:∀k,w.frozen? ⟨g,a+k,none⟩=false:=fun k=>B.free _
 obtain⟨b,c⟩:∃b,b=(C.toList.take n).drop j:=⟨_,rfl⟩;have q:b.length=n - j:=by rw[c];simp;omega
 have r:∀t u,b[t]?=some u->C[j+t]?=some u:=fun t u m=>by have H:=(gZ m).1;rw[c,fN,aW oO,dF]at m;exact m
 obtain⟨A,V,z⟩:∃A:Addr,(if cap=j then some (⟨g,a,none⟩:Addr) else some ⟨g,a+j,none⟩)=some A/\O (∀t u,b[t]?=some u->w.drew.cell? (A.add t)=some u):=by
  by_cases h:cap=j
  . refine⟨⟨g,a,none⟩,by simp[h],Hi fun t u m=>?_⟩;have:=(gZ m).1;omega
  . refine⟨⟨g,a+j,none⟩,by simp[h],Hi fun t u m=>?_⟩;rw[xA,gT];exact(d (j+t)).trans (r t u m)
 have L:O (b.length=(n - j)*1):=Hi (by rw[eP];exact q);have M:O (∀u∈ b,u.oneCell'=true):=Hi fun u m=>by rw[c]at m;obtain⟨_,_,_,rfl⟩:=x u (dR (fR m));rfl
 have N:O (∀t,t<b.length->(w.drew.cell? ⟨g,a+i*1+t,none⟩).isSome=true/\w.drew.frozen? ⟨g,a+i*1+t,none⟩=false):=Hi fun t H=>by
  rw[eP,gT];refine⟨?_,f _⟩
  show (w.cell? _).isSome=true
  rw[d,iG oO];rfl
 obtain⟨v,s⟩:∃v,v=w.drew.setCells g (a+i*1) b:=⟨_,rfl⟩;have l:SB v g 90 (lT C (a+i*1) b):=by rw[s];exact(SB.cells b _ B.drew).1
 have P:∀ty,(Builtin.clear_ #[141] ty #[.slice (some ⟨g,a+(i+(n - j)),none⟩) (n - (i+(n - j))) (cap - (i+(n - j)))]).run prog v=.ok (.tuple #[]) (v.setCells g (a+(i+(n - j))) (List.replicate (n - (i+(n - j))) (.slice none 0 0))):=
  fun ty=>Lib.run_clear_slice v _ _ ty _ underlying141 R5 rfl rfl g (a+(i+(n - j))) _ _ oO (fun t H=>by
   rw[l.cell,iG (by rw[Fw];omega)]
   rfl) (fun t H=>l.free _)
 obtain⟨hW,Q⟩:=Ia s c;have R:i<=cap:=oO;have S:j<=cap:=oO;clear s l B r c q d f x F hz2 p D y;go_enter func189,ntmps189;go_wp2_with fail;go_region_law (refine step_append_room rfl (.tmp 22) (.tmp 25) 141 rfl 90 K 1 underlying141 E G g a i cap (by simp[Act.eval,Act.put]) A (n - j) (cap - j) b (by simp[Act.eval,Act.put]) L.o z.o M.o oO N.o ?_;rw[<-hW.o]);go_wp2;go_ret;exact⟨rfl,by rw[<-Q.o,<-hW.o]⟩
def RZ(w:Vz)(B i j n:Nat)(v:Ac)(xs:Vv)(h:Grow w B 90 1 jy v n xs)(F:j=i+1)(M:i<n):
 Calls prog 189 #[v,.int .i64 i,.int .i64 j] w fun e w'=>∃g p,v.ownBlock=some g/\p.ownBlock=some g/\e=.returned p/\Grow w' B 90 1 jy p (n - 1) (xs.eraseIdx i)/\cE g w w':=by
 obtain⟨f,l⟩:=h.own;rcases l with ⟨_,N⟩|⟨g,cap,b,rfl,hB,q,r,m,d,a⟩
 . omega
 obtain⟨C,hC,c⟩:=h.all g rfl;rw[q]at hC;injection hC with hC
 injection hC with hC _ _
 subst hC;rw[eP]at d a f;refine(R4 g 0 cap i j n b w q rfl c r d m oO oO).mono ?_;rintro e w' ⟨rfl,rfl⟩;have G:i+(n - j)=n - 1:=oO;have H:n - (n - 1)=1:=oO;simp only[cC,eP,G,H,a];obtain⟨k1,k2⟩:=SB.cells (t:=90) (g:=g) (xs.drop j) i (w:=w.drew) (C:=b) q;obtain⟨A,I⟩:=SB.cells (List.replicate 1 (.slice none 0 0)) (n - 1) k1;have s:(xs.drop j).length=n - j:=sO;have x:(lT (lT b i (xs.drop j)) (n - 1) (List.replicate 1 (.slice none 0 0))).size=cap:=by rw[Fw,Fw];exact d
 have o:∀k,(lT (lT b i (xs.drop j)) (n - 1) (List.replicate 1 (.slice none 0 0)))[k]?=if n - 1<=k/\k<n - 1+1 then (List.replicate 1 (Value.slice none 0 0))[k - (n - 1)]? else if i<=k/\k<i+(n - j) then (xs.drop j)[k - i]? else b[k]?:=fun k=>by rw[JT _ _ _ _ (by rw[Fw];simp;omega),JT _ _ _ _ oO,s];simp
 have y:∀k,k<n->b[k]?=xs[k]?:=fun k hk=>by rw[<-a,aW hk,dF]
 refine⟨g,_,rfl,rfl,rfl,⟨⟨?_,.inr ⟨g,cap,_,rfl,hB,A,oO,m,by rw[eP];exact x,?_⟩⟩,fun J z=>?_⟩,?_⟩
 . rw[qd,aN oO,eP];omega
 .
  rw[eP];apply fK;intro k;by_cases hk:k<n - 1
  .
   rw[aW hk,dF,o k,aH oO,List.getElem?_eraseIdx];by_cases D:k<i
   . rw[aH oO,aN D]
     exact y k oO
   . rw[aN oO,aH D,fN]
     congr 1
     omega
  . rw[aO tO,aO (by rw[qd,aN oO];omega)]
 .
  have K:g=J:=by simpa [Value.ownBlock] using z
  subst K;refine⟨_,A,fun u L=>?_⟩;obtain⟨k,hk⟩:=dS.1 L;rw[dF,o k]at hk
  split at hk
  . obtain rfl:=sn (mO hk)
    exact⟨_,_,_,rfl⟩
  . split at hk
    . have E:=fR (mO hk);rw[<-a]at E;exact c u (dR E)
    . exact c u (mO (by rw[dF];exact hk))
 . have:=k2.trans I
   exact⟨this.os,this.tape,this.output,this.size,this.block⟩
end Go.Proofs.YtfgclhpgdanmfaaGreatDoor
