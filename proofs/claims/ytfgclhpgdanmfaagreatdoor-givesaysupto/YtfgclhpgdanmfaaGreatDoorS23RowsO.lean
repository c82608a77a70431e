import Derived.Test.YtfgclhpgdanmfaaGreatDoorS22RowsJ
namespace Go.Proofs.YtfgclhpgdanmfaaGreatDoor
set_option linter.defProp false
open Go.RowKit
open Go.Proofs.Tryz
set_option linter.unusedSimpArgs false
set_option linter.unusedVariables false
set_option maxHeartbeats 8000000
set_option maxRecDepth 1000000
variable{C:Vw}{u w:Vz}{B W b c cap g h i k l m n sz:Nat}{e t:Vr}{K:Ay}{b1 b2 hv sv v x y z:Ac}{xs:Vv}{L S X:AA}{hs:Vy}{r:MR}{α:Type}{a:Vx}{s:FE}{ops:Af}{K':Ar}{Q:Ab}{E:Prop}{T:Aj}
def zC(u:Ac):Prop:=∃n:Int,u=Value.int .i64 n
def lU(hs:Vy):List Value:=hs.map fun h=>Value.int .i64 (h:Nat)
def MH:∀u,u∈ (Value.int .i64 0).cells.toList->zC u:=fun u b=>by
 have e:(Value.int .i64 0).cells=#[.int .i64 0]:=by rfl
 rw[e]at b;obtain rfl:u=_:=sU b;exact⟨_,rfl⟩
def zC.plain(h:∀u,u∈ C.toList->zC u):Plain C:=fun u b=>by obtain⟨n,rfl⟩:=h u b;exact⟨fun x=>sS,fun m=>sS⟩
def MG:(prog.info? 3).map (fun i=>(i.zero,i.size,i.bytes))=some (some (.int .i64 0),1,8):=kK
def SB.unlike{d:Nat}{f:Vw}(h:SB w b t C)(c:SB w d e f)(g:t≠e):b≠d:=by
 rintro rfl;unfold SB at h c;rw[h]at c;injection c with c
 injection c with _ c _
 exact g c
def Grow.sb(h:Grow w B e sz K v n xs)(b:v.ownBlock=some g):∃C,SB w g e C/\∀u,u∈ C.toList->K u:=h.all g b
def Grow.lt(h:Grow w B e sz K v n xs)(b:v.ownBlock=some g):B<=g/\g<w.heap.size:=h.own.lt g b
def Grow.below{w w':Vz}{B:Nat}{e:Vr}{sz:Nat}{K:Ay}{v:Ac}{n:Nat}{xs:Vv}(h:Grow w B e sz K v n xs)(hb:Bl w w'):Grow w' B e sz K v n xs:=h.keep fun g b=>hb.block g (h.lt b).2
def kA:=@Grow.below
def Grow.only{w':Vz}(h:Grow w B e sz K v n xs)(b:w.grownBy w' v.ownBlock)(d:∀C:Vw,(∀u,u∈ C.toList->K u)->Plain C):Fr w w':=by
 rcases ho:v.ownBlock with _|g
 . rw[ho]at b
   exact vC ⟨b.os,b.tape,b.output,b.size,fun k hk=>b.block k hk sS⟩
 . obtain⟨C,f,i⟩:=h.sb ho;rw[ho]at b;exact CZ ⟨b.os,b.tape,b.output,b.size,fun k hk c=>b.block k hk (sU c)⟩ f (d C i)
structure SW (w u:Vz) (W K wide:Nat) (L S X:AA) (hs:Vy) (lv sv hv b1 b2:Ac):Prop where
 box:SB u (w.heap.size+1) 183 #[.int .i64 wide,b1,b2]
 res:SB u w.heap.size 183 #[.int .i64 0,.slice none 0 0,.slice none 0 0]
 left:Grow u w.heap.size 90 1 jy lv L.length (L.map MR.val)
 rows:Grow u w.heap.size 90 1 jy sv S.length (S.map MR.val)
 heads:Grow u w.heap.size 3 1 zC hv hs.length (lU hs)
 apart:∀g,lv.ownBlock=some g->sv.ownBlock≠some g
 okL:wB u W K L
 okS:wB u W K S
 okX:wB u W K X
 base:Bl w u
 sl:jy b1/\jy b2
section
variable {w u:Vz} {W K wide:Nat} {L S X:AA} {hs:Vy} {lv sv hv b1 b2:Ac}
def SW.below{b:Vz}(h:SW w u W K wide L S X hs lv sv hv b1 b2)(hb:Bl u b):SW w b W K wide L S X hs lv sv hv b1 b2:=
 ⟨h.box.below hb h.box.lt,h.res.below hb h.res.lt,h.left.below hb,h.rows.below hb,h.heads.below hb,h.apart,h.okL.fr (vC hb),h.okS.fr (vC hb),h.okX.fr (vC hb),h.base.trans (hb.mono h.base.size),h.sl⟩
def SW.alloc(h:SW w u W K wide L S X hs lv sv hv b1 b2)(o:Obj):SW w (u.alloc o) W K wide L S X hs lv sv hv b1 b2:=h.below (bR.alloc lZ _)
def SW.drew(h:SW w u W K wide L S X hs lv sv hv b1 b2):SW w u.drew W K wide L S X hs lv sv hv b1 b2:=h.below bR.drew
def kQ:90≠183:=dD
def pQ:3≠183:=dD
def rP:3≠90:=dD
def SW.uI{e:Vz}{g:Nat}{f:AA}{b:Ac}(h:SW w u W K wide L S X hs lv sv hv b1 b2)(i:lv.ownBlock=some g)(j:b.ownBlock=some g)(c:cE g u e)(hl:Grow e w.heap.size 90 1 jy b f.length (f.map MR.val))(l:wB e W K f):SW w e W K wide f S X hs b sv hv b1 b2:=by
 obtain⟨C,c1,c2⟩:=h.left.sb i;have d:=CZ c c1 (vB c2);refine⟨h.box.only c (h.box.unlike c1 kQ.symm),h.res.only c (h.res.unlike c1 kQ.symm),hl,h.rows.keep fun k hk=>c.block k (h.rows.lt hk).2 ?_,h.heads.keep fun k hk=>c.block k (h.heads.lt hk).2 ?_,fun k hk=>?_,l,h.okS.fr d,h.okX.fr d,h.base.trans (c.below (h.left.lt i).1 h.base.size),h.sl⟩
 . rintro rfl
   exact h.apart k i hk
 . obtain⟨D,d1,_⟩:=h.heads.sb hk
   exact d1.unlike c1 rP
 . rw[j]at hk;rw[<-hk];exact h.apart g i
def SW.EA{s:MR}{nb c:Nat}(h:SW w u W K wide L S X hs lv sv hv b1 b2)(y:u.cell? ⟨nb,0,none⟩=some s.val)(A:vw u W K s)(R:S.length<=1000)(ty:Vr):
 ∃f p,(Builtin.append_ #[141,141] ty #[sv,.slice (some ⟨nb,0,none⟩) 1 c]).run prog u=.ok f p/\SW w p W K wide L (S++ [s]) X hs lv f hv b1 b2/\u.heap.size<=p.heap.size/\∀b i n,u.cell? ⟨b,i,none⟩=some (.int .i64 n)->p.cell? ⟨b,i,none⟩=some (.int .i64 n):=by
 obtain⟨T,N,B,F,hz2⟩:=me GD;obtain⟨f,p,q,G,g,H⟩:=h.rows.app (P:=prog) (ty:=ty) underlying141 N B F hz2 rfl dD ML ⟨nb,0,none⟩ 1 c [s.val] rfl (fun j v I=>by
  match j,I with
  |0,I=>
   obtain rfl:s.val=v:=sU I;rw[xA]
   exact y) (fun v hv=>by obtain rfl:v=s.val:=sU hv
                          rfl) (fun v hv=>by obtain rfl:v=s.val:=sU hv
                                             exact⟨_,_,_,rfl⟩) oO dD h.base.size
 have l:=h.rows.only g (fun C=>vB);have d:∀b,b<u.heap.size->sv.ownBlock≠some b->p.heap[b]?=u.heap[b]?:=fun b hb m=>g.block b hb (fun e=>m e.symm)
 have m:∀{b:Nat} {t:Vr} {C:Vw},SB u b t C->t≠90->sv.ownBlock≠some b:=fun {b t C} hb J y=>by obtain⟨D,d1,_⟩:=h.rows.sb y;exact hb.unlike d1 J rfl
 have z:∀{b:Nat} {t:Vr} {C:Vw},SB u b t C->t≠90->SB p b t C:=fun {b t C} hb J=>by have O:=d b hb.lt (m hb J);unfold SB at hb ⊢;rw[O];exact hb
 have x:=h.base.grown g h.base.size (fun k hk=>(h.rows.lt hk).1);refine⟨f,p,q,⟨z h.box kQ.symm,z h.res kQ.symm,h.left.keep fun k hk=>d k (h.left.lt hk).2 (h.apart k hk),by rw[dH,aS];exact G,h.heads.keep fun k hk=>?_,fun k hk=>?_,h.okL.fr l,fun r q=>?_,h.okX.fr l,x,h.sl⟩,g.size,fun b i n hb=>?_⟩
 . obtain⟨D,d1,_⟩:=h.heads.sb hk
   exact d k (h.heads.lt hk).2 (m d1 rP)
 .
  rcases H with e|e
  . rw[e]
    exact h.apart k hk
  . rw[e];have:=(h.left.lt hk).2;intro M;injection M with M
    omega
 .
  rcases bD.1 q with q|q
  . exact(h.okS r q).fr l
  . obtain rfl:r=s:=sU q
    exact A.fr l
 . refine(bJ (w:=u) (a:=⟨b,i,none⟩) (d b (bI _ _ hb) fun y=>?_)).trans hb;obtain⟨D,d1,d2⟩:=h.rows.sb y;rw[d1.cell]at hb;obtain⟨_,_,_,e⟩:=d2 _ (mO (by rw[dF];exact hb));cases e
def SW.D9{k nb c:Nat}(h:SW w u W K wide L S X hs lv sv hv b1 b2)(q:u.cell? ⟨nb,0,none⟩=some (.int .i64 (k:Nat)))(H:hs.length<=1000)(ty:Vr):
 ∃g n,(Builtin.append_ #[133,133] ty #[hv,.slice (some ⟨nb,0,none⟩) 1 c]).run prog u=.ok g n/\SW w n W K wide L S X (hs++ [k]) lv sv g b1 b2:=by
 obtain⟨I,A,r,s,hz2⟩:=me MG;obtain⟨g,n,B,x,i,F⟩:=h.heads.app (P:=prog) (ty:=ty) underlying133 A r s hz2 rfl dD MH ⟨nb,0,none⟩ 1 c [.int .i64 (k:Nat)] rfl (fun j v y=>by
  match j,y with
  |0,y=>
   obtain rfl:_=v:=sU y;rw[xA]
   exact q) (fun v hv=>by obtain rfl:v=_:=sU hv
                          rfl) (fun v hv=>by obtain rfl:v=_:=sU hv
                                             exact⟨_,rfl⟩) oO dD h.base.size
 have l:=h.heads.only i (fun C=>zC.plain);have d:∀b,b<u.heap.size->hv.ownBlock≠some b->n.heap[b]?=u.heap[b]?:=fun b hb f=>i.block b hb (fun e=>f e.symm)
 have f:∀{b:Nat} {t:Vr} {C:Vw},SB u b t C->t≠3->hv.ownBlock≠some b:=fun {b t C} hb z q=>by obtain⟨D,d1,_⟩:=h.heads.sb q;exact hb.unlike d1 z rfl
 have p:∀{b:Nat} {t:Vr} {C:Vw},SB u b t C->t≠3->SB n b t C:=fun {b t C} hb z=>by have G:=d b hb.lt (f hb z);unfold SB at hb ⊢;rw[G];exact hb
 have m:=h.base.grown i h.base.size (fun k hk=>(h.heads.lt hk).1);refine⟨g,n,B,⟨p h.box pQ.symm,p h.res pQ.symm,h.left.keep fun k hk=>?_,h.rows.keep fun k hk=>?_,?_,h.apart,h.okL.fr l,h.okS.fr l,h.okX.fr l,m,h.sl⟩⟩
 . obtain⟨D,d1,_⟩:=h.left.sb hk
   exact d k (h.left.lt hk).2 (f d1 rP.symm)
 . obtain⟨D,d1,_⟩:=h.rows.sb hk
   exact d k (h.rows.lt hk).2 (f d1 rP.symm)
 . have e:lU (hs++ [k])=lU hs++ [.int .i64 (k:Nat)]:=by simp[lU]
   rw[e,aS];exact x
def SW.put(h:SW w u W K wide L S X hs lv sv hv b1 b2):SW w ((u.setCell ⟨w.heap.size+1,1,none⟩ sv).setCell ⟨w.heap.size+1,2,none⟩ hv) W K wide L S X hs lv sv hv sv hv:=by
 have i:cE (w.heap.size+1) u ((u.setCell ⟨w.heap.size+1,1,none⟩ sv).setCell ⟨w.heap.size+1,2,none⟩ hv):=((cX _ _).setCell _ _).setCell _ _;have f:∀{B:Nat} {e:Vr} {sz:Nat} {Q:Ay} {v:Ac} {n:Nat} {xs:Vv},Grow u B e sz Q v n xs->∃x y z,v=Value.slice x y z:=fun {B e sz Q v n xs} b=>by
  rcases b.own.2 with ⟨rfl,_⟩|⟨g,cap,m,rfl,_⟩
  . exact⟨_,_,_,rfl⟩
  . exact⟨_,_,_,rfl⟩
 have c:∀{B:Nat} {e:Vr} {sz:Nat} {Q:Ay} {v:Ac} {n:Nat} {xs:Vv},e≠183->Grow u B e sz Q v n xs->Grow ((u.setCell ⟨w.heap.size+1,1,none⟩ sv).setCell ⟨w.heap.size+1,2,none⟩ hv) B e sz Q v n xs:=fun {B e sz Q v n xs} p b=>b.keep fun k hk=>i.block k (b.lt hk).2 (by
  obtain⟨D,d1,_⟩:=b.sb hk
  exact d1.unlike h.box p)
 have j:=(h.box.set 1 sv).set 2 hv;have l:Plain #[.int .i64 (wide:Int),b1,b2]:=fun v hv=>by
  obtain⟨x1,x2,x3,q⟩:=h.sl.1;obtain⟨y1,y2,y3,r⟩:=h.sl.2;subst q;subst r;simp at hv;rcases hv with rfl|rfl|rfl
  . exact⟨sS,sS⟩
  . exact⟨sS,sS⟩
  . exact⟨sS,sS⟩
 have d:=CZ i h.box l;exact⟨by simpa using j,h.res.only i oO,c kQ h.left,c kQ h.rows,c pQ h.heads,h.apart,h.okL.fr d,h.okS.fr d,h.okX.fr d,h.base.trans (i.below (dU _) h.base.size),f h.rows,f h.heads⟩
end
def Grow.mono{w:Vz}{B B':Nat}{e:Vr}{sz:Nat}{K:Ay}{v:Ac}{n:Nat}{xs:Vv}(h:Grow w B e sz K v n xs)(hB:B'<=B):Grow w B' e sz K v n xs:=by
 refine⟨⟨h.own.1,?_⟩,h.all⟩;rcases h.own.2 with c|⟨g,cap,b,rfl,hb,d⟩
 . exact .inl c
 . exact .inr ⟨g,cap,b,rfl,aE hB hb,d⟩
def ui:=@Grow.mono
def Grow.slice{w:Vz}{B sz:Nat}{e:Vr}{K:Ay}{v:Ac}{n:Nat}{xs:Vv}(h:Grow w B e sz K v n xs):
 ∃a cap,v=.slice a n cap/\n<=cap/\mA w a xs/\(0<n->∃g,a=some ⟨g,0,none⟩/\v.ownBlock=some g):=by
 rcases h.own.2 with ⟨rfl,rfl⟩|⟨g,cap,f,rfl,hb,i,b,k,l,c⟩
 . have:=List.eq_nil_of_length_eq_zero (sU h.own.1);subst this;exact⟨none,0,rfl,aV _,⟨fun j u d=>by simp at d⟩,fun h=>oO⟩
 . refine⟨some ⟨g,0,none⟩,cap,rfl,b,⟨fun j u d=>⟨g,0,rfl,SB.lt i,?_⟩⟩,fun _=>⟨g,rfl,rfl⟩⟩;have:=h.own.cells (g:=g) rfl j u d;rw[xA]at this;exact this
def qt:=@Grow.slice
def Grow.mat{K:Nat}(h:Grow w B 90 1 jy v L.length (L.map MR.val))(b:wB w W K L):
 ∃a cap,v=.slice a L.length cap/\sD w a cap W L/\(0<L.length->∃g,a=some ⟨g,0,none⟩):=by
 obtain⟨a,cap,e,d,c,f⟩:=h.slice;refine⟨a,cap,e,⟨⟨d,by rw[IA];exact c⟩,fun r c=>⟨(b r c).row,(b r c).len⟩⟩,fun i=>?_⟩;obtain⟨g,j,_⟩:=f i;exact⟨g,j⟩
def Grow.set(h:Grow w B e 1 K (.slice (some ⟨g,0,none⟩) n cap) n xs)(hk:k<n)(v:K x):Grow (w.setCell ⟨g,k,none⟩ x) B e 1 K (.slice (some ⟨g,0,none⟩) n cap) n (xs.set k x):=by
 obtain⟨d,f⟩:=h.own;rcases f with ⟨b,_⟩|⟨s,cap',y,b,hb,t,m,p,q,c⟩
 . cases b
 .
  injection b with b _ z
  injection b with b
  injection b with b _ _
  subst b;subst z;obtain⟨C,hC,i⟩:=h.all g rfl;rw[t]at hC;injection hC with hC
  injection hC with hC _ _
  subst hC;have j:=SB.set t k x;refine⟨⟨by rw[aQ];exact d,.inr ⟨g,cap,_,rfl,hb,j,m,p,by simpa using q,?_⟩⟩,fun s r=>?_⟩
  . rw[rA,List.take_set,c]
  .
   have e:g=s:=by simpa [Value.ownBlock] using r
   subst e;refine⟨_,j,fun u l=>?_⟩;rw[rA]at l;rcases dN l with l|rfl
   . exact i u l
   . exact v
def Grow.free(h:Grow w B e 1 K (.slice (some ⟨g,0,none⟩) l cap) n xs)(k:Nat):w.frozen? ⟨g,k,none⟩=false:=by obtain⟨C,hC,_⟩:=h.sb (g:=g) rfl;exact hC.free k
def Grow.cell(h:Grow w B e 1 K (.slice (some ⟨g,0,none⟩) l cap) n xs)(hk:xs[k]?=some x):w.cell? ⟨g,k,none⟩=some x:=by have:=h.own.cells (g:=g) rfl k x hk;rw[xA,cC]at this;exact this
def SW.Jn{K wide:Nat}(h:SW w u W K wide L S X hs (.slice (some ⟨g,0,none⟩) n cap) sv hv b1 b2)(e:n=L.length)(f:m<L.length)(i:vw u W K r):SW w (u.setCell ⟨g,m,none⟩ r.val) W K wide (L.set m r) S X hs (.slice (some ⟨g,0,none⟩) n cap) sv hv b1 b2:=by
 subst e;have d:cE g u (u.setCell ⟨g,m,none⟩ r.val):=(cX _ _).setCell _ _;obtain⟨C,c1,c2⟩:=h.left.sb (g:=g) rfl;have b:=CZ d c1 (vB c2);refine h.uI rfl rfl d ?_ fun x c=>?_
 . rw[aQ,iT]
   exact h.left.set f ⟨_,_,_,rfl⟩
 .
  rcases dN c with c|rfl
  . exact(h.okL x c).fr b
  . exact i.fr b
theorem JS{β:Type}(f:α->β):∀(l:List α)(i:Nat),(l.map f).eraseIdx i=(l.eraseIdx i).map f
 | [],_=>rfl
 |_ :: _,0=>rfl
 |x :: l,i+1=>by simp only[dY,List.eraseIdx_cons_succ];rw[JS f l i]
def Grow.form(h:Grow w B e sz K v n xs)(b:v.ownBlock=some g):∃cap,v=.slice (some ⟨g,0,none⟩) n cap:=by
 rcases h.own.2 with ⟨rfl,_⟩|⟨c,cap,d,rfl,_⟩
 . simp[Value.ownBlock]at b
 . obtain rfl:c=g:=by simpa [Value.ownBlock] using b
   exact⟨cap,rfl⟩
section
variable {w u:Vz} {W K wide:Nat} {L S X:AA} {hs:Vy} {lv sv hv b1 b2:Ac}
def SW.Gc{i:Vz}{g j:Nat}{f:Ac}(h:SW w u W K wide L S X hs lv sv hv b1 b2)(l:lv.ownBlock=some g)(c:f.ownBlock=some g)(m:cE g u i)(d:Grow i w.heap.size 90 1 jy f (L.length - 1) ((L.map MR.val).eraseIdx j))(n:j<L.length):
 ∃cap,f=.slice (some ⟨g,0,none⟩) (L.eraseIdx j).length cap/\SW w i W K wide (L.eraseIdx j) S X hs f sv hv b1 b2:=by
 have b:(L.eraseIdx j).length=L.length - 1:=by rw[qd,aN n]
 obtain⟨cap,e⟩:=d.form c;obtain⟨C,c1,c2⟩:=h.left.sb l;have k:=CZ m c1 (vB c2);refine⟨cap,by rw[b];exact e,h.uI l c m ?_ fun r p=>(h.okL r (lO p)).fr k⟩;rw[b,<-JS];exact d
def SW.xI{Y:AA}(h:SW w u W K wide L S X hs lv sv hv b1 b2)(b:wB u W K Y):SW w u W K wide L S Y hs lv sv hv b1 b2:=⟨h.box,h.res,h.left,h.rows,h.heads,h.apart,h.okL,h.okS,b,h.base,h.sl⟩
variable {P:Au} {ops:Af} {o:Oper} {a:Act} {K':Ar} {Q:Ab} {E:Prop}
end
def Grow.xQ(h:Grow w B e sz jy v n xs){q:Rat}(p:v.ownBlock=some g)(f:w.cell? ⟨b,i,none⟩=some x)(r:eF w (.agg #[x,y,z]) q):g≠b:=by rintro rfl;obtain⟨C,c1,c2⟩:=h.sb p;rw[c1.cell]at f;obtain⟨_,_,_,j⟩:=c2 x (mO (by rw[dF];exact f));obtain⟨neg,a,m,c,b,k,d,l,_⟩:=r;simp at l;rw[l.1]at j;cases j
def SW.done{K wide:Nat}{lv:Ac}(h:SW w u W K wide L S X hs lv sv hv b1 b2)(x y z:Ac):
 Grow (((u.setCell ⟨w.heap.size,0,none⟩ x).setCell ⟨w.heap.size,1,none⟩ y).setCell ⟨w.heap.size,2,none⟩ z) w.heap.size 90 1 jy sv S.length (S.map MR.val)/\Grow (((u.setCell ⟨w.heap.size,0,none⟩ x).setCell ⟨w.heap.size,1,none⟩ y).setCell ⟨w.heap.size,2,none⟩ z) w.heap.size 3 1 zC hv hs.length (lU hs)/\
  wB (((u.setCell ⟨w.heap.size,0,none⟩ x).setCell ⟨w.heap.size,1,none⟩ y).setCell ⟨w.heap.size,2,none⟩ z) W K S/\Below w.heap.size w (((u.setCell ⟨w.heap.size,0,none⟩ x).setCell ⟨w.heap.size,1,none⟩ y).setCell ⟨w.heap.size,2,none⟩ z):=by
 have b:cE w.heap.size u (((u.setCell ⟨w.heap.size,0,none⟩ x).setCell ⟨w.heap.size,1,none⟩ y).setCell ⟨w.heap.size,2,none⟩ z):=(((cX _ _).setCell _ _).setCell _ _).setCell _ _;have c:Plain #[.int .i64 0,.slice none 0 0,.slice none 0 0]:=fun v hv=>by
  simp at hv;rcases hv with rfl|rfl
  . exact⟨sS,sS⟩
  . exact⟨sS,sS⟩
 refine⟨h.rows.keep fun k hk=>b.block k (h.rows.lt hk).2 ?_,h.heads.keep fun k hk=>b.block k (h.heads.lt hk).2 ?_,h.okS.fr (CZ b h.res c),h.base.trans (b.below lZ h.base.size)⟩
 . obtain⟨D,d1,_⟩:=h.rows.sb hk
   exact d1.unlike h.res kQ
 . obtain⟨D,d1,_⟩:=h.heads.sb hk
   exact d1.unlike h.res pQ
structure pF (K:Nat) (I:Aq):Prop where
 fit:∀{c:Nat} {L S:Aj} {hs:Vy},I c L S hs->∀r,r∈ L->∀i,Fits (r i) K
 skip:∀{c:Nat} {L S:Aj} {hs:Vy},I c L S hs->(∀r,r∈ L->r c=0)->I (c+1) L S hs
 step:∀{c j:Nat} {L S:Aj} {hs:Vy} {s:cW},I c L S hs->L[j]?=some s->s c≠0->I (c+1) ((L.eraseIdx j).map (kR c s)) (S++ [s]) (hs++ [c])
def RY{s r:cW}(h:r c=0):kR c s r=r:=by funext i;unfold kR;rw[h];grind
def RW(a:Vx)(cap c:Nat)(f:Vy)(w:Vz)(h:mA w a (lU f))(hl:f.length<=1000):
 Calls prog 191 #[.slice a f.length cap,.int .i64 c] w fun e w'=>(∃v:Int,e=.returned (.int .i64 v)/\(0<=v↔c∈ f))/\w'=w:=by
 have u:=Hi h;clear h;go_enter func191,ntmps191;go_wp2_with fail;go_loopw [8] (fun i wr=>∃k:Nat,k<=f.length/\i=.int .i64 k/\(∀j,j<k->f[j]?≠some c)/\wr=w) (fun i _=>f.length - (intOf i).toNat)
 case atStart=>exact⟨0,cJ _,rfl,fun j l=>oO,rfl⟩
 case round=>
  obtain⟨k,hk,rfl,g,rfl⟩:=hrel;have q:=Hi g;clear g;by_cases m:k<f.length
  .
   obtain⟨x,n⟩:∃x,f[k]?=some x:=⟨f[k],gE m⟩;obtain⟨b,y,rfl,hb,d⟩:=u.o.cell k (.int .i64 (x:Nat)) (by simp[lU,n]);have r:=Hi n;have A:((k:Int)<(f.length:Int)):=oO;clear n;by_cases s:c=x
   . subst s;have z:((c:Int) == (c:Int))=true:=sS;go_wp2;go_ret;exact⟨⟨k,rfl,⟨fun _=>mO r.o,fun _=>oO⟩⟩,rfl⟩
   .
    have z:((c:Int) == (x:Int))=false:=by rw[aJ];omega
    go_wp2;go_roundw
    case rel=>
     refine⟨k+1,oO,by go_num,fun j l=>?_,by first|rfl|trivial⟩;rcases bB j k with t|t
     . exact q.o j t
     . obtain rfl:j=k:=oO;rw[r.o];intro e;injection e with e
       exact s e.symm
    case measure=>exact mI
  . have p:k=f.length:=oO;subst p;go_wp2;go_ret;refine⟨⟨-1,rfl,⟨fun h=>oO,fun h=>?_⟩⟩,rfl⟩;obtain⟨j,l⟩:=dS.1 h;exact absurd l (q.o j (gZ l).1)
def RV(a:Vx)(cap c:Nat)(b:Vy)(w:Vz)(h:mA w a (lU b))(hl:b.length<=1000):
 Calls prog 144 #[.slice a b.length cap,.int .i64 c] w fun e w'=>e=.returned (.bool (decide (c∈ b)))/\w'=w:=by
 have i:=Hi h;clear h;go_enter func144,ntmps144;go_wp2_with fail;go_fit (RW a cap c b w i.o hl);rintro e w1 ⟨⟨v,rfl,f⟩,rfl⟩;by_cases d:c∈ b
 . have q:=f.2 d;have g:=Hi d;clear f d;go_wp2;go_ret;exact⟨by rw[dC g.o];rfl,rfl⟩
 . have q:=bS fun h=>d (f.1 h)
   have g:=Hi d;clear f d;go_wp2;go_ret;exact⟨by rw[bS g.o];rfl,rfl⟩
def Np:∀u:Ac,u∈ (Value.agg #[.bool false,.slice none 0 0,.slice none 0 0]).cells.toList->True:=fun _ _=>trivial
def lK.one{c:Ah}(h:lK w a cap c):∀u,u∈ c.flatMap FE.cells->u.oneCell'=true:=fun u b=>by
 obtain⟨t,d,b⟩:=mp.1 b;obtain⟨e,f,g⟩:=(h.ts t d).1.one;simp[FE.cells]at b;rcases b with rfl|rfl|rfl
 . exact e
 . exact f
 . exact g
def RU(a:Vx)(cap:Nat)(d:Ah)(w:Vz)(h:lK w a cap d)(hl:d.length<=1000):
 Calls prog 190 #[.slice a d.length cap] w fun e w'=>(∃v,e=.returned v/\Grow w' w.heap.size 99 3 (fun _=>True) v d.length (d.flatMap FE.cells))/\Below w.heap.size w w':=by
 obtain⟨J,t,C⟩:=aZ.1 Hv;simp only[fZ]at C;obtain⟨g,m,hz2⟩:=C;have K:∀(w:Vz)(a:Vx)(n c n' x:Nat),(binOp .eql 90 (.slice a n c) (.slice none n' x)).run prog w=.ok (.bool a.isNone) w:=fun w a n c n' x=>Lib.run_eql_slice_nil w _ _ a n c n' x underlying90
 have H:=Hi h;clear h;cases a with
 |none=>
  have y:d= []:=by
   cases d with
   |nil=>rfl
   |cons r l=> obtain⟨b,z,e,_⟩:=H.o.at (i:=0) (e:=r) rfl;cases e
  subst y;clear t g m hz2;go_enter func190,ntmps190;go_wp2;go_ret;exact⟨⟨_,rfl,pA _ _ _ _ _⟩,ac _ _⟩
 |some ad=>
  obtain⟨W,hW⟩:=nm (w.alloc (.cells #[] 99));have f:Below w.heap.size w W:=by rw[<-hW];exact(ac _ _).alloc lZ _
  have p:Grow W w.heap.size 99 3 (fun _=>True) (.slice (some ⟨w.heap.size,0,none⟩) 0 0) 0 []:=by rw[<-hW];exact Grow.yF w _ _ _
  obtain⟨L,w',A,q,s,B⟩:=p.app (P:=prog) (ty:=90) underlying90 t g m hz2 rfl dD Np ad d.length cap (d.flatMap FE.cells) (xz (c:=FE.cells) (sz:=3) (fun _=>rfl) d) (fun j u D=>by
   obtain⟨b,z,e,hb,E⟩:=H.o.row.row.cell j u D;cases e;rw[xA]
   exact ce f hb E) H.o.one (fun _ _=>trivial) oO dD f.size
  rw[<-hW]at A;obtain⟨F,G,I⟩:=Ib A q (f.grown s f.size (fun k hk=>by simp[Value.ownBlock]at hk;omega));clear A q s B p f hW t g m hz2;go_enter func190,ntmps190;go_wp2_with (at_builtin;refine Gy _ rfl _ _ 90 90 rfl (.slice (some ⟨w.heap.size,0,none⟩) 0 0) (.slice (some ad) d.length cap) _ _ rfl rfl F.o ?_);go_wp2;go_ret;refine⟨⟨_,rfl,?_⟩,I.o⟩;have:=G.o;rw[cC,cH]at this;exact this
def RQ{K:Nat}(j:Grow u B 99 3 (fun _=>True) v (W+1) (r.ts.flatMap FE.cells++FE.cells s))(l:∀t,t∈ r.ts->eF u (.agg #[t.x,t.y,t.z]) t.q/\Fits t.q t.k/\0<t.k)(hl:r.ts.length=W)(hk:∀t,t∈ r.ts->t.k<=K)(m:eF u (.agg #[s.x,s.y,s.z]) s.q/\Fits s.q s.k/\0<s.k)(f:s.k<=K):
 ∃d:MR,v=.slice d.a d.ts.length d.cap/\vw u (W+1) K d/\d.q=iz W r.q s.q:=by
 obtain⟨a,cap,rfl,n,g,_⟩:=j.slice;have c:(r.ts++ [s]).length=W+1:=by simp[hl]
 have h:(r.ts++ [s]).flatMap FE.cells=r.ts.flatMap FE.cells++FE.cells s:=sS;refine⟨⟨a,cap,r.ts++ [s]⟩,by simp[hl],⟨⟨⟨by rw[c];exact n,by rw[h];exact g⟩,fun t b=>?_⟩,c,fun t b=>?_⟩,?_⟩
 .
  rcases bD.1 b with b|b
  . exact l t b
  . obtain rfl:t=s:=sU b
    exact m
 .
  rcases bD.1 b with b|b
  . exact hk t b
  . obtain rfl:t=s:=sU b
    exact f
 .
  funext i;unfold iz;by_cases e:i=W
  . rw[aN e,nQ (e:=s)];subst e;rw[<-hl];simp
  .
   rw[aH e];rcases bB i W with o|o
   . obtain⟨t,b⟩:∃t,r.ts[i]?=some t:=⟨r.ts[i]' oO,gE oO⟩
     rw[nQ b,nQ (e:=t) (by rw[aR oO];exact b)]
   . rw[ob (rO c),ob oO]
def Sx{P:Au}{o:Oper}{a:Act}(G:o.guard=none)(q x:AV)(r:o.op=Op.call { callee:=Callee.builtin Builtin.append,args:=#[q,x],argTypes:=#[t,t] }){i:AT}{bytes:Nat}{s:Addr}(H:a.eval q=v)(I:a.eval x=.slice (some s) m c)(h:Grow u B e sz K v n xs)(J:P.underlying t=some (.slice e))(L:P.info? e=some i)(M:i.zero=some z)(d:i.size=sz)(y:i.bytes=bytes)(A:z.cells.size=sz)(C:0<sz)(D:∀u,u∈ z.cells.toList->K u)(b:Vv)(hl:b.length=m*sz)(f:∀j w,b[j]?=some w->u.cell? (s.add j)=some w)(N:∀u,u∈ b->u.oneCell'=true)(O:∀u,u∈ b->K u)(F:n+m<=1048576)(l:bytes<=1000)(g:B<=u.heap.size)(R:∀k p,Grow p B e sz K k (n+m) (xs++b)->u.grownBy p v.ownBlock->(k.ownBlock=v.ownBlock∨k.ownBlock=some u.heap.size)->K' (a.put o.dst k) p):
 if Region.wanted o (yielded ops a.tmps)=true then Oper.wp P o a u K' Q else E:=by
 obtain⟨k,p,S,T,U,V⟩:=h.app (P:=P) (ty:=o.type) J L M d y A C D s m c b hl f N O F l g;exact BI G q x r H I S (R k p T U V)
def Sw(h:SB w b t #[x,y,z]):∀(j:Nat)(u:Ac),[x,y,z][j]?=some u->w.cell? ((⟨b,0,none⟩:Addr).add j)=some u:=fun j u a=>by rw[xA,h.cell,cC,<-a];simp
def Sv{c:AA}{b:MR}(h:SB w g t (c.flatMap MR.cells).toArray)(hk:c[k]?=some b):w.cell? ⟨g,k,none⟩=some (.slice b.a b.ts.length b.cap):=by rw[h.cell,IA];simp[hk,MR.val]
def Su{e:AA}{q:Rat}(h:SB w g t (e.flatMap MR.cells).toArray)(f:w.cell? ⟨b,i,none⟩=some x)(n:eF w (.agg #[x,y,z]) q):b≠g:=by rintro rfl;rw[h.cell]at f;obtain⟨_,_,_,j⟩:=Dk e x (mO (sU f));obtain⟨neg,a,m,c,b,k,d,l,_⟩:=n;simp at l;rw[l.1]at j;cases j
def CK(h:Below w.heap.size w u)(o:Obj):Below w.heap.size w (u.alloc o):=h.alloc h.size o
def CJ(h:Below w.heap.size w u):Below w.heap.size w u.drew:=h.drew
def St(h:Grow w B e sz K v n xs)(o:Obj):Grow (w.alloc o) B e sz K v n xs:=h.below (bR.alloc lZ _)
def Ss(h:Grow w B e sz K v n xs):Grow w.drew B e sz K v n xs:=h.below bR.drew
def Sr{c:Ah}(h:lK w a cap c)(hl:c.length<=1000)(d:Below w.heap.size w u):
 Calls prog 190 #[.slice a c.length cap] u fun e f=>(∃v,e=.returned v/\Grow f w.heap.size 99 3 (fun _=>True) v c.length (c.flatMap FE.cells))/\Below w.heap.size w f/\∀b t C,SB u b t C->SB f b t C:=by
 refine(RU a cap c u (h.below d) hl).mono ?_;rintro e f ⟨⟨v,rfl,i⟩,hb⟩;exact⟨⟨v,rfl,i.mono d.size⟩,d.trans (hb.mono d.size),fun b t C g=>g.below hb g.lt⟩
def Sq{o:Oper}{a:Act}(I:o.guard=none)(h x:AV)(i:o.op=Op.call { callee:=Callee.builtin Builtin.append,args:=#[h,x],argTypes:=#[90,90] }){K nb:Nat}(J:a.eval h=v)(L:a.eval x=.slice (some ⟨nb,0,none⟩) 1 c)(hG:Grow u w.heap.size 99 3 (fun _=>True) v W (r.ts.flatMap FE.cells))(hB:Below w.heap.size w u)(hC:SB u nb 99 #[s.x,s.y,s.z])(B:lK w r.a r.cap r.ts)(hl:r.ts.length=W)(hW:W<=1000)(hk:∀t,t∈ r.ts->t.k<=K)(j:eF w (.agg #[s.x,s.y,s.z]) s.q/\Fits s.q s.k/\0<s.k)(l:s.k<=K)(M:∀b m,vw m (W+1) K b->b.q=iz W r.q s.q->Below w.heap.size w m->K' (a.put o.dst (.slice b.a b.ts.length b.cap)) m):
 if Region.wanted o (yielded ops a.tmps)=true then Oper.wp prog o a u K' Q else E:=by
 obtain⟨T,N,C⟩:=aZ.1 Hv;simp only[fZ]at C;obtain⟨n,p,hz2⟩:=C;obtain⟨O,R,S⟩:=j.1.one;refine Sx (P:=prog) I h x i J L hG underlying90 N n p hz2 rfl dD Np [s.x,s.y,s.z] rfl (Sw hC) (fun u D=>by
  simp at D;rcases D with rfl|rfl|rfl
  . exact O
  . exact R
  . exact S) (fun _ _=>trivial) oO dD hB.size ?_
 intro U F e f G;have d:=hB.grown f hB.size (fun k hk=>(hG.lt hk).1);obtain⟨b,rfl,g,A⟩:=RQ (u:=F) (r:=r) (s:=s) (W:=W) (K:=K) e (fun t H=>⟨(B.ts t H).1.below d,(B.ts t H).2⟩) hl hk ⟨j.1.below d,j.2⟩ l;exact M b F g A d
def Sp(a a':Vx)(cap cap' W K:Nat)(rs:AA)(E:Ah)(w:Vz)(h:sD w a cap W rs)(hk:∀r,r∈ rs->∀t,t∈ r.ts->t.k<=K)(h':lK w a' cap' E)(m:∀t,t∈ E->t.k<=K)(Q:E.length=rs.length)(hl:rs.length<=1000)(hW:W<=1000):
 Calls prog 143 #[.slice a rs.length cap,.slice a' rs.length cap'] w fun e w'=>(∃(g:Nat)(n:AA),e=.returned (.slice (some ⟨g,0,none⟩) rs.length rs.length)/\n.length=rs.length/\SB w' g 90 (n.flatMap MR.cells).toArray/\wB w' (W+1) K n/\∀(i:Nat)(r:MR)(s:FE),rs[i]?=some r->E[i]?=some s->∃c,n[i]?=some c/\c.q=iz W r.q s.q)/\Below w.heap.size w w':=by
 obtain⟨HH,HK⟩:=Ia h hk;have R:=Hi h';have aj:=Hi m;have A:=Hi Q;clear Q;have S:=fun w=>MN rs.length oO w
 obtain⟨MC,I⟩:=nm (((List.replicate rs.length MR.none).flatMap MR.cells).toArray);rw[I]at S;have ak:=Hi I;clear h hk h' m I;obtain⟨i0,J,hz⟩:=aZ.1 Hv;simp only[fZ]at hz;obtain⟨T,U,hz2⟩:=hz;obtain⟨HI,a2,a3,a4⟩:=Ic J T U hz2;clear J T U hz2;go_enter func143,ntmps143;go_wp2_with fail;clear S;obtain⟨g,X⟩:=nm w.heap.size;obtain⟨V,hV⟩:=nm (w.alloc (.cells MC 90));have al:O (Below g w V):=Hi (by rw[<-hV,<-X];exact(ac _ _).alloc lZ _);have am:O (SB V g 90 ((List.replicate rs.length MR.none).flatMap MR.cells).toArray):=Hi (by rw[<-hV,<-X,ak.o];exact cK w _ _)
 try rw[hV]
 try rw[X]
 clear hV;go_loopw [13] (fun i wr=>∃(k:Nat)(B:AA),k<=rs.length/\i=.int .i64 k/\B.length=rs.length/\SB wr g 90 (B.flatMap MR.cells).toArray/\(∀(i:Nat)(r:MR)(s:FE),i<k->rs[i]?=some r->E[i]?=some s->∃c,B[i]?=some c/\vw wr (W+1) K c/\c.q=iz W r.q s.q)/\Below g w wr) (fun i _=>rs.length - (intOf i).toNat)
 case atStart=>exact⟨0,_,oO,rfl,sS,am.o,fun i r s J=>oO,al.o⟩
 case round=>
  obtain⟨k,B,hk,rfl,Y,L,F,hb⟩:=hrel;obtain⟨HB,C,HA⟩:=Ib hb L F;have an:=L.lt;clear hb L F;by_cases ao:k<rs.length
  .
   obtain⟨r,l⟩:∃r,rs[k]?=some r:=⟨rs[k],gE ao⟩;obtain⟨s,M⟩:∃s,E[k]?=some s:=⟨E[k]'(oB A.o),gE (oB A.o)⟩;have f:Below w.heap.size w wr:=by rw[X];exact HB.o
   obtain⟨fb,a5,rfl,a6,d⟩:=(HH.o.below f).at l;obtain⟨hq,Z⟩:=(HH.o.below f).get l;obtain⟨sb,so,rfl,G,d0,d1,d2⟩:=(R.o.below f).at M;obtain⟨N,HQ,HR,ap,aq,ar⟩:=Ie ((R.o.below f).get M) hq l M (HK.o r (mO l)) (aj.o s (mO M));obtain⟨o1,o2,o3⟩:=N.o.1.one;have a7:O (∀u,u∈ [s.x,s.y,s.z]->u.oneCell'=true):=Hi (fun u hu=>by
    simp at hu;rcases hu with rfl|rfl|rfl
    . exact o1
    . exact o2
    . exact o3)
   have q1:((k:Int)<(rs.length:Int)):=oO;clear l M hq f o1 o2 o3;have D:r.ts.length<=1000:=oO;have aa:=Hi (fun u=>Sr (u:=u) HQ.o D);rw[Z]at aa;have a0:=C;obtain⟨r0,ab⟩:∃r0,B[k]?=some r0:=⟨B[k]' oO,gE oO⟩;obtain⟨au,D0,D1,D2⟩:=Ic ab d0 d1 d2;clear ab;go_wp2_with fail;go_region_held3 (fun v=>v.cell? ⟨sb,so+k*3,none⟩=some s.x/\v.cell? ⟨sb,so+k*3+1,none⟩=some s.y/\v.cell? ⟨sb,so+k*3+2,none⟩=some s.z) ((first|(simp [*];done)|go_keep)) (first
    |(
     go_at_call 190;apply cM;apply aa.o;(focus(repeat(first|exact ac _ _|apply CK|apply CJ)));rintro e1 w1 ⟨⟨v1,rfl,ad⟩,ae,af⟩;obtain⟨P,av,aw⟩:=Ib ae ad af;clear ad ae af;obtain⟨d0,d1,d2⟩:=Jb P.o G D0.o D1.o D2.o;have a8:=P.o.size
     skip)
    |(
     refine Sq rfl (.tmp 21) (.tmp 26) rfl (w:=wr) (v:=v1) (r:=r) (s:=s) (W:=W) (K:=K) rfl rfl ?hG ?hB ?hC HQ.o Z hW aq.o N.o ar.o ?_
     case hG=>(focus(repeat(first|exact av.o|apply St|apply Ss)))
     case hB=>(focus(repeat(first|exact P.o|apply CK|apply CJ)))
     case hC=>(first|exact cK _ _ _|exact aw.o _ _ _ (cK _ _ _))
     intro c w2 H ag ah;obtain⟨j,ax⟩:=Ia ah H;have ay:=Hi ag;clear H ag ah;have b:=Hi (C.o.below j.o C.o.lt);obtain⟨d0,d1,d2⟩:=Jb j.o G D0.o D1.o D2.o;have f0:=b.o.free k;have t0:=Sv b.o au.o;have az:=Su b.o d0 (N.o.1.below j.o);have a1:=az.symm
     skip)
    |fail)
   all_goals
    go_wp2_with fail;have ho:cE g w2 (w2.setCell ⟨g,k,none⟩ (.slice c.a c.ts.length c.cap)):=(cX _ _).setCell _ _;have ai:=CZ ho b.o (vB fun u hu=>Dk B u (sU hu));refine⟨⟨k+1,B.set k c,oO,by go_num,by rw[aQ];exact Y,?_,?_,(HB.o.trans (j.o.mono (dO an))).setCell (p:=⟨g,k,none⟩) lZ _⟩,?_⟩
    . have:=b.o.set k (.slice c.a c.ts.length c.cap);rw[MO]
      simpa using this
    . intro i x y J hx hy;rcases bB i k with h1|h1
      . obtain⟨z,z1,z2,z3⟩:=HA.o i x y h1 hx hy
        exact⟨z,by rw[bN oO];exact z1,(z2.fr (vC j.o)).fr ai,z3⟩
      . obtain rfl:i=k:=oO;obtain rfl:=aD (HR.o.symm.trans hx);obtain rfl:=aD (ap.o.symm.trans hy);exact⟨c,by rw[bP oO],ax.o.fr ai,ay.o⟩
    . simp[intOf]
      omega
  .
   have m:k=rs.length:=oO;subst m;go_wp2;go_ret;rw[X];refine⟨⟨g,B,rfl,Y,C.o,fun r l=>?_,fun i r s l M=>?_⟩,HB.o⟩
   . obtain⟨i,J⟩:=dS.1 l;have a9:=(gZ J).1;obtain⟨z,z1,z2,_⟩:=HA.o i (rs[i]' oO) (E[i]'(oB A.o)) oO (gE oO) (gE (oB A.o));obtain rfl:=aD (J.symm.trans z1);exact z2
   . obtain⟨z,z1,_,z3⟩:=HA.o i r s (gZ l).1 l M
     exact⟨z,z1,z3⟩
def jS(K:Nat)(r:cW):List cW->List Nat->Prop
 |t :: T,h :: hs=>(∀i,Fits (r i) K)/\jS K (fun i=>r i - t i*r h) T hs
 |_,_=>∀i,Fits (r i) K
def jT(K:Nat):List cW->List Nat->Prop
 |r :: S,h :: hs=>jT K S hs/\jS K (fun i=>r i / r h) (cln S hs) hs
 |_,_=>True
theorem jS.here{K:Nat}{r:cW}:∀{T:Aj} {hs:Vy},jS K r T hs->∀i,Fits (r i) K
 |_ :: _,_ :: _,h=>h.1
 | [],_,h=>by unfold jS at h;exact h
 |_ :: _,[],h=>by unfold jS at h;exact h
theorem jT.drop{K:Nat}:∀{S:Aj} {hs:Vy} (i:Nat),jT K S hs->jT K (S.drop i) (hs.drop i)
 |_,_,0,h=>h
 |r :: S,h :: hs,i+1,k=>jT.drop i k.1
 | [],_,i+1,h=>by rw[List.drop_nil];trivial
 |r :: S,[],i+1,h=>by rw[List.drop_nil];generalize List.drop (i+1) (r :: S)=T;cases T<;>simp[jT]
structure CW (w u:Vz) (B W K:Nat) (S:AA) (hs:Vy) (wd sv hv:Ac):Prop where
 box:SB u w.heap.size 183 #[wd,sv,hv]
 rows:Grow u B 90 1 jy sv S.length (S.map MR.val)
 heads:Grow u B 3 1 zC hv hs.length (lU hs)
 ok:wB u W K S
 base:∀k,k<w.heap.size->sv.ownBlock≠some k->u.heap[k]?=w.heap[k]?
 o:u.os=w.os/\u.tape=w.tape/\u.output=w.output/\w.heap.size<=u.heap.size
section
variable {w u:Vz} {B W K:Nat} {S:AA} {hs:Vy} {wd sv hv:Ac}
def CW.below{b:Vz}(h:CW w u B W K S hs wd sv hv)(hb:Bl u b):CW w b B W K S hs wd sv hv:=
 ⟨h.box.below hb h.box.lt,h.rows.below hb,h.heads.below hb,h.ok.fr (vC hb),fun k hk a=>(hb.block k (aF hk h.o.2.2.2)).trans (h.base k hk a),⟨hb.os.trans h.o.1,hb.tape.trans h.o.2.1,hb.output.trans h.o.2.2.1,aE h.o.2.2.2 hb.size⟩⟩
def CW.set{g cap m n:Nat}{r:MR}(h:CW w u B W K S hs wd (.slice (some ⟨g,0,none⟩) n cap) hv)(f:n=S.length)(i:m<S.length)(j:vw u W K r):CW w (u.setCell ⟨g,m,none⟩ r.val) B W K (S.set m r) hs wd (.slice (some ⟨g,0,none⟩) n cap) hv:=by
 subst f;have a:cE g u (u.setCell ⟨g,m,none⟩ r.val):=(cX _ _).setCell _ _;obtain⟨C,c1,c2⟩:=h.rows.sb (g:=g) rfl;have b:=CZ a c1 (vB c2);refine⟨h.box.only a (h.box.unlike c1 kQ.symm),?_,h.heads.keep fun k hk=>a.block k (h.heads.lt hk).2 ?_,fun x d=>?_,fun k hk c=>?_,⟨a.os.trans h.o.1,a.tape.trans h.o.2.1,a.output.trans h.o.2.2.1,aE h.o.2.2.2 a.size⟩⟩
 . rw[aQ,iT]
   exact h.rows.set i ⟨_,_,_,rfl⟩
 . obtain⟨D,d1,_⟩:=h.heads.sb hk
   exact d1.unlike c1 rP
 .
  rcases dN d with d|rfl
  . exact(h.ok x d).fr b
  . exact j.fr b
 . refine(a.block k (aF hk h.o.2.2.2) (fun e=>c ?_)).trans (h.base k hk c);subst e;rfl
end
def So(x:Rat):(0:Rat) / x=0:=by grind
def Rz(x:Rat):(0:Rat) - 0*x=0:=by grind
def Grow.Ba(h:Grow w B e sz K (.slice a l cap) n xs):mA w a xs:=by
 obtain⟨d,cap',e,_,b,_⟩:=h.slice;injection e with c _ _
 rw[c];exact b
def Ry{r t:cW}(a:r h=0):red r (t :: T) (h :: hs)=red r T hs:=by
 have e:(fun i=>r i - t i*r h)=r:=by funext i;rw[a];grind
 simp only[red];rw[e]
def jS.next{K:Nat}{r t:cW}(k:jS K r (t :: T) (h :: hs)):jS K (fun i=>r i - t i*r h) T hs:=k.2
def jS.skip{K:Nat}{r t:cW}(k:jS K r (t :: T) (h :: hs))(a:r h=0):jS K r T hs:=by
 have e:(fun i=>r i - t i*r h)=r:=by funext i;rw[a];grind
 have:=k.2;rw[e]at this;exact this
def GC{l:List α}{x:α}(h:l[i]?=some x):l.drop i=x :: l.drop (i+1):=by obtain⟨a,b⟩:=gZ h;rw[List.drop_eq_getElem_cons a,b]
def Rx{K:Nat}{a:AA}{j:Nat}(hl:S.length=hs.length)(e:S[j]?=some r)(f:hs[j]?=some h)(g:(a.drop (j+1)).map MR.q=cln ((S.map MR.q).drop (j+1)) (hs.drop (j+1)))(k:jT K (S.map MR.q) hs):
 cln ((S.map MR.q).drop j) (hs.drop j)=red (fun i=>r.q i / r.q h) ((a.drop (j+1)).map MR.q) (hs.drop (j+1)) :: (a.drop (j+1)).map MR.q/\jS K (fun i=>r.q i / r.q h) ((a.drop (j+1)).map MR.q) (hs.drop (j+1)):=by
 have b:(S.map MR.q).drop j=r.q :: (S.map MR.q).drop (j+1):=GC (by rw[aP,e];rfl);have c:=GC f;have d:=k.drop j;rw[b,c]at d;rw[b,c,g];exact⟨rfl,d.2⟩
end Go.Proofs.YtfgclhpgdanmfaaGreatDoor
