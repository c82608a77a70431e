import Derived.Test.YtfgclhpgdanmfaaGreatDoorS34StrC
namespace Go.Proofs.YtfgclhpgdanmfaaGreatDoor
set_option linter.defProp false
open Go.RowKit
open Go.Proofs.Tryz
set_option linter.unusedSimpArgs false
set_option linter.unusedVariables false
set_option maxHeartbeats 8000000
set_option maxRecDepth 1000000
variable{X w w':Vz}{a:Vx}{b:Nat}{t:Vr}{C:Vw}
structure ug (w:Vz):Prop where
 l0:w.cell? ⟨0,0,none⟩=some (.int .i64 (-9))
 l1:w.cell? ⟨0,1,none⟩=some (.string ⟨#[]⟩)
 l2:w.cell? ⟨0,2,none⟩=some (.string ⟨#[]⟩)
def ug.nu:ue ug:=⟨fun _ _ hb h=>⟨yB hb h.l0,yB hb h.l1,yB hb h.l2⟩⟩
abbrev nf:L3:=⟨-9,⟨#[]⟩,⟨#[]⟩⟩
def bT{x y:Vz}(h:Bl w x)(k:Bl x y):Bl w y:=h.trans (k.mono h.size)
def mA.fs{us:Vv}(h:mA w a us)(g:∀u,u∈ us->¬jy u)(d:Fs w w'):mA w' a us:=⟨fun i u e=>by
 obtain⟨b,c,j,k,f⟩:=h.cell i u e
 exact⟨b,c,j,aF k d.size,(d.cell f (g u (mO e)) _).trans f⟩⟩
def eO.fs{α:Type}{c:α->List Value}(d:∀e u,u∈ c e->¬jy u){cap:Nat}{b:List α}(h:eO c w a cap b)(f:Fs w w'):eO c w' a cap b:=⟨h.fit,h.row.fs (fun u g=>by
 obtain⟨e,_,i⟩:=mp.1 g
 exact d e u i) f⟩
def GX(s:Vs):¬jy (.string s):=fun ⟨_,_,_,e⟩=>by cases e
def S2.tH(e:S2)(u:Ac)(h:u∈ e.cells):¬jy u:=by simp only[S2.cells,aY,dI,ji]at h;rcases h with rfl|rfl<;>exact GX _
def B6.tH(e:B6)(u:Ac)(h:u∈ e.cells):¬jy u:=by simp only[B6.cells,aY,dI,ji]at h;rcases h with rfl|rfl|rfl|rfl|rfl|rfl<;>first|exact GX _|exact Ii _ _
def H3.tH(e:H3)(u:Ac)(h:u∈ e.cells):¬jy u:=by simp only[H3.cells,aY,dI,ji]at h;rcases h with rfl|rfl|rfl<;>first|exact GX _|exact Ii _ _
def L3.tH(e:L3)(u:Ac)(h:u∈ e.cells):¬jy u:=by simp only[L3.cells,aY,dI,ji]at h;rcases h with rfl|rfl|rfl<;>first|exact GX _|exact Ii _ _
def qG.fs{c d e:Nat}{f:Ad}{g:Ap}{i:Ak}(h:qG w c d e f g i)(a:Fs w w'):qG w' c d e f g i:=⟨h.j.fs S2.tH a,h.b.fs B6.tH a,h.h.fs H3.tH a⟩
def LK(hb:Below (X.alloc (.cells C t)).heap.size (X.alloc (.cells C t)) w'):SB w' X.heap.size t C:=(cK X t C).below hb (cK X t C).lt
def LJ(hb:Below (X.alloc (.cells C t)).drew.heap.size (X.alloc (.cells C t)).drew w'):SB w' X.heap.size t C:=(cK X t C).drew.below hb (cK X t C).lt
def XZ{x y z:Ac}(h:SB w b 26 #[.slice none 0 0,.slice none 0 0,.slice none 0 0]):SB (((w.setCell ⟨b,0,none⟩ x).setCell ⟨b,1,none⟩ y).setCell ⟨b,2,none⟩ z) b 26 #[x,y,z]/\cE b w (((w.setCell ⟨b,0,none⟩ x).setCell ⟨b,1,none⟩ y).setCell ⟨b,2,none⟩ z)/\Fs w (((w.setCell ⟨b,0,none⟩ x).setCell ⟨b,1,none⟩ y).setCell ⟨b,2,none⟩ z):=by have a:cE b w (((w.setCell ⟨b,0,none⟩ x).setCell ⟨b,1,none⟩ y).setCell ⟨b,2,none⟩ z):=(((cX b w).setCell _ _).setCell _ _).setCell _ _;refine⟨by simpa using ((h.set 0 x).set 1 y).set 2 z,a,Fs.iw a h (fun u c=>?_)⟩;simp only[aY,dI,ji]at c;rcases c with rfl|rfl|rfl<;>exact⟨_,_,_,rfl⟩
def PL{i:Nat}{v:Ac}(h:SB w b t C)(c:C[i]?=some v):w.setCell ⟨b,i,none⟩ v=w:=by
 have hC:C.setIfInBounds i v=C:=by
  apply oF;intro j;rw[gG]
  split
  . next e=>subst e;rw[c];split<;>simp_all
  . rfl
 have a:(w.setCell ⟨b,i,none⟩ v).heap=w.heap:=by
  apply oF;intro k;by_cases e:k=b
  . subst e;have:=h.set i v;rw[hC]at this;exact this.trans h.symm
  . exact gF w ⟨b,i,none⟩ v k e
 cases w;simp only[World.setCell]at a ⊢;rw[a]
def IM(v:Vz):nz v none []:=fun i s a=>by simp at a
section
open Go.ChangeShapes Go.WideShapes Go.ChangeAt Go.RowKit
def Do:prog.globalNamed "rafter/raftersame.Load" =some 0:=kK
def yS:(prog.globals[0]?).map (·.type)=some 36:=kK
def Vh{W:Vz}{rest:AD}(h:laidMet prog (("rafter/raftersame.Load",Rows.laid_rafter_raftersame_Load) :: rest) W):ug W:=by
 obtain⟨s,⟨g,t,j,e,p,q,k,l,a,m,_,_⟩,_⟩:=h;obtain rfl:=aD (Do.symm.trans k);obtain rfl:=aD (yS.symm.trans l);obtain⟨b,d,f⟩:=MV underlying36 underlying3 underlying34 underlying32 JU l7 GZ CN rfl rfl rfl rfl rfl rfl rfl rfl m;simp only[Rows.laid_rafter_raftersame_Load,rN,mh,u9,iV,u7,up,Mg,uW,jE]at f;obtain⟨n,o,r⟩:=f;have c:∀i,W.cell? ⟨0,i,none⟩=j.toList[i]?:=fun i=>by rw[uX Do a i];simp
 rw[d]at c;refine⟨?_,?_,?_⟩
 . rw[c 0,n];rfl
 . rw[c 1,<-CM o.symm];rfl
 . rw[c 2,<-CM r.symm];rfl
end
def Tn(a:Vx)(cap n K:Nat)(C:Vt)(y:AO)(w:Vz)(hg:jq w)(h:mA w a (iq C))(hy:∀(i:Nat)(s:Vs),C[i]?=some s->il s.data.toList (y i)/\s.size<=1073741824/\Fits (y i) K)(hK:0<K)(hn:C.length=n)(hl:n<=1000):
 Calls prog 22 #[.slice a n cap] w fun e w'=>∃(v:Ac)(p:Am),e=.returned v/\jD w' w.heap.size v p/\p.length=n/\(∀(i:Nat)(t:RT),p[i]?=some t->t.2.1=y i/\t.2.2=K)/\Below w.heap.size w w':=by
 obtain⟨HH,HG,S,HN⟩:=Ic h hg hy hn;clear h hg hy hn;go_enter func22,ntmps22;go_wp2_with fail;go_loopw [3,8] (fun ov T wr=>∃(k:Nat)(p:Am),k<=n/\T=.int .i64 k/\jD wr w.heap.size ov p/\p.length=k/\(∀(i:Nat)(t:RT),p[i]?=some t->t.2.1=y i/\t.2.2=K)/\Below w.heap.size w wr) (fun _ T _=>n - (intOf T).toNat)
 case atStart=>exact⟨0,[],cJ _,rfl,jD.nil _ _,rfl,fun i t U=>by simp at U,ac _ _⟩
 case round=>
  obtain⟨k,p,hk,rfl,x,D,E,F⟩:=hrel;obtain⟨oa,oc,V,_⟩:=x.row;obtain⟨G,d,H,f⟩:=Ic x D E F;subst V;clear x D E F;by_cases aa:k<n
  .
   obtain⟨s,W⟩:∃s,C[k]?=some s:=⟨C[k]'(oB HN.o),gE _⟩;obtain⟨b,ab,rfl,hb,x0⟩:=(HH.o.below f.o).cell k (.string s) (by unfold iq;rw[aP,W];rfl);have z:=Hi (S.o k s W);have q1:((k:Int)<(n:Int)):=oO;clear W;go_wp2_with fail;refine fB (zO (HG.o.below f.o) z.o.1 z.o.2.1 z.o.2.2 hK) ?_;rintro _ w2 A ⟨Q,rfl,I,q,J⟩;have B:=Hi (f.o.trans (A.mono f.o.size));have r:=G.o.below A;obtain⟨Y,R⟩:=nm (w2.alloc (.cells #[.pointer (some ⟨Q,0,none⟩)] 63));have g:Bl w2 Y:=by rw[<-R];exact(ac _ _).alloc lZ _
   have L:SB Y w2.heap.size 63 #[.pointer (some ⟨Q,0,none⟩)]:=by rw[<-R];exact cK w2 _ _
   obtain⟨v',w',M,N,O,_⟩:=(r.below g).app (us:=[(Q,y k,K)]) (nb:=w2.heap.size) (c:=1) (m:=1) (fun t U=>by
    obtain rfl:=bE.1 U
    exact⟨I.below g,q,J⟩) rfl (fun j u hj=>by
    cases j with
    |zero=>cases hj;exact(L.cell 0).trans rfl
    |succ j=>simp at hj) (oB d.o) (aE B.o.size g.size) 38
   rw[<-R]at M;obtain⟨X,Z⟩:=Ia N ((B.o.trans (g.mono B.o.size)).trans O);clear A r R g L N O I q J x0;go_wp2;go_roundw
   case rel=>
    refine⟨k+1,p++ [(Q,y k,K)],oO,by go_num,X.o,by simp[d.o],fun i t' l=>?_,Z.o⟩;rcases bB i k with hi|hi
    . rw[aR (oB d.o)]at l
      exact H.o i t' l
    . have P:=(gZ l).1;rw[aS,d.o]at P;obtain rfl:i=k:=by simp at P;omega
      rw[aX (oB d.o),d.o,fA]at l;cases l;exact⟨rfl,rfl⟩
   case measure=>exact mI
  . obtain rfl:k=n:=oO;go_wp2;go_ret;exact⟨_,p,rfl,G.o,d.o,H.o,f.o⟩
namespace Giv
set_option linter.unusedVariables false
theorem dc:∀(n:Nat)(r x:cW),dot n r x=dot n x r
 |0,_,_=>rfl
 |n+1,r,x=>by unfold dot;rw[dc n r x,Rat.mul_comm]
theorem By:∀(n:Nat)(r x y:cW),dot n r (fun i=>x i+y i)=dot n r x+dot n r y
 |0,_,_,_=>by unfold dot;grind
 |n+1,r,x,y=>by unfold dot;rw[By n r x y];grind
theorem xX:∀(n:Nat)(r x:cW)(q:Rat),dot n r (fun i=>q*x i)=q*dot n r x
 |0,_,_,_=>by unfold dot;grind
 |n+1,r,x,q=>by unfold dot;rw[xX n r x q];grind
theorem PS:∀(N W:Nat)(M:AI)(v x:cW),dot N v (fun i=>dot W (M i) x)=dot W x (fun c=>dot N v (fun i=>M i c))
 |0,W,M,v,x=>by rw[yY W x _ (fun c _=>by unfold dot;grind)];rfl
 |N+1,W,M,v,x=>by have h:=PS N W M v x;have e:dot (N+1) v (fun i=>dot W (M i) x)=dot N v (fun i=>dot W (M i) x)+v N*dot W (M N) x:=rfl;rw[e,h];have a:(fun c=>dot (N+1) v (fun i=>M i c))=(fun c=>dot N v (fun i=>M i c)+v N*M N c):=rfl;rw[a,By,xX,dc W x (M N)]
variable {W n:Nat} {B:Ae} {c e:AO}
def sOf(W:Nat)(B:Ae)(m:cW)(i:Nat):Rat:=-(dot W (fun w=>B w i) m)
def tOf(W:Nat)(B:Ae)(c e:AO)(m:cW)(i:Nat):Rat:=c i*(sOf W B m i - e i)
def putF(n:Nat)(B:Ae)(t:cW)(w:Nat):Rat:=dot n (B w) t
def stf(n:Nat)(B:Ae)(c:AO)(w v:Nat):Rat:=dot n (B w) (fun i=>c i*B v i)
def Settles(W n:Nat)(B:Ae)(c e:AO)(fr:AH)(hv a m:cW):Prop:=
 (∀w,w<W->fr w=false->m w=hv w)/\(∀w,w<W->fr w=true->putF n B (tOf W B c e m) w=a w)
def Pb{m a:cW}(h:∀w,w<W->m w=a w)(i:Nat):sOf W B m i=sOf W B a i:=by unfold sOf;rw[rG W _ m _ a (fun w b=>by rw[h w b])]
def frs(fr:AH)(W:Nat):List Nat:=(List.range W).filter fr
def frs_succ(fr:AH)(W:Nat):frs fr (W+1)=if fr W=true then frs fr W++ [W] else frs fr W:=by unfold frs;rw[ur,List.filter_append];cases h:fr W<;>simp[h]
def frs_mem{fr:AH}{W w:Nat}:w∈ frs fr W↔w<W/\fr w=true:=by unfold frs;rw[mS,dL]
def frs_len(fr:AH)(W:Nat):(frs fr W).length<=W:=by unfold frs;exact aE (List.length_filter_le _ _) (by rw[jm];exact aV _)
theorem Pa(fr:AH)(f g:cW):∀W,dot W f (fun w=>if fr w=true then g w else 0)=dot (frs fr W).length (fun j=>f ((frs fr W).getD j 0)) (fun j=>g ((frs fr W).getD j 0))
 |0=>rfl
 |W+1=>by
  have h:=Pa fr f g W;rw[frs_succ];have e:dot (W+1) f (fun w=>if fr w=true then g w else 0)=dot W f (fun w=>if fr w=true then g w else 0)+f W*(if fr W=true then g W else 0):=rfl;rw[e,h];cases hf:fr W with
  |false=>simp;grind
  |true=>
   simp only[tN,aS,dJ,iU,cC];generalize frs fr W=l;have a:dot (l.length+1) (fun j=>f ((l++ [W]).getD j 0)) (fun j=>g ((l++ [W]).getD j 0))=dot l.length (fun j=>f ((l++ [W]).getD j 0)) (fun j=>g ((l++ [W]).getD j 0))+f ((l++ [W]).getD l.length 0)*g ((l++ [W]).getD l.length 0):=rfl;rw[a,show (l++ [W]).getD l.length 0=W by simp]
   congr 1
   refine rG _ _ _ _ _ (fun j b=>?_);rw[show (l++ [W]).getD j 0=l.getD j 0 by simp[aR b]]
def put_on{fr:AH}{m m0:cW}(b:∀w,w<W->fr w=true->m0 w=0)(d:∀w,w<W->fr w=false->m w=m0 w)(w:Nat):
 putF n B (tOf W B c e m) w=putF n B (tOf W B c e m0) w - dot (frs fr W).length (fun j=>stf n B c w ((frs fr W).getD j 0)) (fun j=>m ((frs fr W).getD j 0)):=by
 have f:∀i,sOf W B m i=sOf W B m0 i - dot (frs fr W).length (fun j=>B ((frs fr W).getD j 0) i) (fun j=>m ((frs fr W).getD j 0)):=fun i=>by
  rw[<-Pa fr (fun w=>B w i) m W];unfold sOf;have e:dot W (fun w=>B w i) m=dot W (fun w=>B w i) (fun w=>m0 w+if fr w=true then m w else 0):=by
   refine rG _ _ _ _ _ (fun v a=>?_);cases hf:fr v with
   |false=>rw[d v a hf];simp;grind
   |true=>rw[b v a hf];simp;grind
  rw[e,By];grind
 have g:dot (frs fr W).length (fun j=>stf n B c w ((frs fr W).getD j 0)) (fun j=>m ((frs fr W).getD j 0))=dot n (B w) (fun i=>c i*dot (frs fr W).length (fun j=>B ((frs fr W).getD j 0) i) (fun j=>m ((frs fr W).getD j 0))):=by
  generalize (fun j=>m ((frs fr W).getD j 0))=x;generalize (frs fr W).length=L;have h:(fun j=>stf n B c w ((frs fr W).getD j 0))=(fun j=>dot n (fun i=>c i*B ((frs fr W).getD j 0) i) (B w)):=funext fun j=>dc n _ _
  rw[h,dc,PS L n (fun j i=>c i*B ((frs fr W).getD j 0) i) x (B w)];refine rG _ _ _ _ _ (fun i _=>?_);rw[xX,dc L x]
 rw[g];unfold putF;rw[<-Od];refine rG _ _ _ _ _ (fun i _=>?_);unfold tOf;rw[f];grind
end Giv
def FB(q:Rat)(k:Nat)(w:Vz)(g:Nat):Prop:=∃x y z,SB w g 99 #[x,y,z]/\FF q k (.agg #[x,y,z]) w
def FB.below{q:Rat}{k:Nat}{w w':Vz}{g:Nat}(h:FB q k w g)(hb:Bl w w'):FB q k w' g:=by obtain⟨x,y,z,a,b⟩:=h;exact⟨x,y,z,a.below hb a.lt,b.below hb⟩
def FB.mono{q:Rat}{k j:Nat}{w:Vz}{g:Nat}(h:FB q k w g)(a:k<=j):FB q j w g:=by obtain⟨x,y,z,b,c⟩:=h;exact⟨x,y,z,b,c.mono a⟩
def FB.set{q p:Rat}{k j:Nat}{w:Vz}{g:Nat}{x y z:Ac}(h:FB q k w g)(b:FF p j (.agg #[x,y,z]) w):FB p j (((w.setCell ⟨g,0,none⟩ x).setCell ⟨g,1,none⟩ y).setCell ⟨g,2,none⟩ z) g:=by
 obtain⟨d,e,f,c,a⟩:=h;have l:pX #[d,e,f]:=fun i n=>by
  have:=a.1.no64 n
  match i with
  |0=>simpa using this.1
  |1=>simpa using this.2.1
  |2=>simpa using this.2.2
  |i+3=>simp
 refine⟨x,y,z,?_,?_,b.2⟩
 . have:=((c.set 0 x).set 1 y).set 2 z
   simpa using this
 . exact b.1.only ((((cX g w).setCell 0 _).setCell 1 _).setCell 2 _) c l
def XV{a b:Ah}{k:Nat}{e s:FE}(c:a[k]?=some e)(d:b[k]?=some s):dot (k+1) (qAt a) (qAt b)=dot k (qAt a) (qAt b)+e.q*s.q:=by
 show dot k (qAt a) (qAt b)+qAt a k*qAt b k=_
 rw[CL c,CL d]
def XU(a a':Vx)(cap cap' n m g l:Nat)(C D:Ah)(w:Vz)(h:lK w a cap C)(h':lK w a' cap' D)(hn:C.length=n)(hm:D.length=m)(a7:n<=m)(a8:m<=1000)(k1:∀t,t∈ C->t.k<=g)(k2:∀t,t∈ D->t.k<=l)(p:n*(g+l+1)+1<68719476000):
 Calls prog 97 #[.slice a n cap,.slice a' m cap'] w (cS w (FF (dot n (qAt C) (qAt D)) (n*(g+l+1)+1))):=by
 obtain⟨HH,HG,HN,aq,ar,HK⟩:=Ie h h' (cZ hn hm) k1 k2 p;clear h h' hn hm k1 k2 p;go_enter func97,ntmps97;go_wp2_with fail;obtain⟨W,hW⟩:=nm ((w.alloc (.cells #[.bool false,.slice none 0 0,.slice none 0 0] 99)).alloc (.cells #[.bool false,.slice none 0 0,.slice none 0 0] 99));have au:=Ub hW;have av:=Ud hW;have T:O (FB 0 1 W (w.heap.size+1)):=Hi ⟨_,_,_,by rw[<-hW];exact xE w _ _ _ _,Ma _⟩;obtain⟨G,hG⟩:=nm (w.heap.size+1);rw[hG]at T;have U:O (w.heap.size<G):=Hi oO;obtain⟨aw,ax⟩:=Ia hW hG;clear hW hG
 try rw[aw.o]
 try simp only[ax.o]
 go_loopw [9] (fun iv wr=>∃k:Nat,k<=n/\iv=.int .i64 k/\FB (dot k (qAt C) (qAt D)) (k*(g+l+1)+1) wr G/\SB wr w.heap.size 99 #[.bool false,.slice none 0 0,.slice none 0 0]/\Below w.heap.size w wr) (fun iv _=>n - (intOf iv).toNat)
 case atStart=>exact⟨0,oO,rfl,by simpa [dot] using T.o,av.o,au.o⟩
 case round=>
  obtain⟨k,hk,rfl,V,hr,hb⟩:=hrel;obtain⟨X,P,E⟩:=Ib hb V hr;clear hb V hr;by_cases a9:k<n
  .
   obtain⟨e,Y⟩:∃e,C[k]?=some e:=⟨C[k]'(oB HN.o),gE (oB HN.o)⟩;obtain⟨s,Z⟩:∃s,D[k]?=some s:=⟨D[k]'(oB HN.o),gE (oB HN.o)⟩;obtain⟨fb,ba,rfl,aa,D0,D1,D2⟩:=HH.o.at Y;obtain⟨sb,a5,rfl,ab,E0,E1,E2⟩:=HG.o.at Z;obtain⟨HX,HY,Q,ay,az,a0,ad,ae,af⟩:=Ih (zF (HH.o.get Y) (aq.o e (mO Y))) (zF (HG.o.get Z) (ar.o s (mO Z))) (XV Y Z) D0 D1 D2 E0 E1 E2;obtain⟨d0,d1,d2⟩:=Jb X.o aa D0 D1 D2;have q1:((k:Int)<(n:Int)):=oO;have q2:((k:Int)<(m:Int)):=oO;clear Y Z D0 D1 D2 E0 E1 E2;go_wp2_with fail;refine fB ((HX.o.below X.o).isZero) ?_;intro v4 w4 hb hv;obtain rfl:v4=.bool (decide (e.q=0)):=hv;obtain⟨F,H,L⟩:=Ib (X.o.trans (hb.mono X.o.size)) (P.o.below hb) (E.o.below hb E.o.lt);clear hb d0 d1 d2 P E;by_cases I:e.q=0
   . rw[dC I];have HE:O (dot (k+1) (qAt C) (qAt D)=dot k (qAt C) (qAt D)):=Hi (by rw[Q.o,I];grind);clear I;go_wp2;go_roundw
     case rel=>exact⟨k+1,oO,by go_num,by rw[HE.o];exact H.o.mono (by rw[gV];omega),L.o,F.o⟩
     case measure=>exact mI
   .
    rw[bS I];obtain⟨d0,d1,d2⟩:=Jb F.o ab ad.o ae.o af.o;clear I;go_wp2_with fail;refine fB ((HY.o.below F.o).isZero) ?_;intro v5 w5 hb hv;obtain rfl:v5=.bool (decide (s.q=0)):=hv;obtain⟨R,u,M⟩:=Ib (F.o.trans (hb.mono F.o.size)) (H.o.below hb) (L.o.below hb L.o.lt);clear hb d0 d1 d2 H L;by_cases I:s.q=0
    . rw[dC I];have HE:O (dot (k+1) (qAt C) (qAt D)=dot k (qAt C) (qAt D)):=Hi (by rw[Q.o,I];grind);clear I;go_wp2;go_roundw
      case rel=>exact⟨k+1,oO,by go_num,by rw[HE.o];exact u.o.mono (by rw[gV];omega),M.o,R.o⟩
      case measure=>exact mI
    .
     rw[bS I];clear I;go_wp2_with fail;obtain⟨x,y,z,d,A⟩:=u.o;have B:Bl w5 w5.drew:=bR.drew;have f:=d.below B d.lt;obtain⟨ag,ah,ai⟩:=Ib (f.cell 0) (f.cell 1) (f.cell 2);simp only[aK,aI,aM]at ag ah ai;obtain⟨S,N,b,aj,ak⟩:=Id f (A.below B) (R.o.trans (B.mono R.o.size)) (u.o.below B) (M.o.below B M.o.lt);have al:k*(g+l+1)+1+(g+l)<68719476000:=by have:=HK.o;have h2:(k+1)*(g+l+1)<=n*(g+l+1):=cD _ oO;rw[gV]at h2;omega
     have a1:=Hi al;have a2:O (g+l<68719476000):=Hi oO;clear d f A B al u M;refine ou 11 (fun j=>some (26+j)) ?_;refine gJ (c:=?_) [] (fun w hb=>?_) ?_;rotate_left
     . intro K p;obtain⟨d0,d1,d2⟩:=Jb hb S.o.lt ag.o ah.o ai.o;go_simp;exact p
     refine cV [] ?_;refine cV [] ?_;refine cV [1,2] ?_;refine gJ (c:=?_) [3] (fun w hb=>?_) ?_;rotate_left
     . intro K p;have hz:=b.o.trans (hb.mono b.o.size);obtain⟨d0,d1,d2⟩:=Jb hz aa ay.o az.o a0.o;go_simp;exact p
     refine cV [] ?_;refine cV [] ?_;refine cV [5,6] ?_;refine gJ (c:=?_) [7] (fun w hb=>?_) ?_;rotate_left
     . intro K p;have hz:=b.o.trans (hb.mono b.o.size);obtain⟨d0,d1,d2⟩:=Jb hz ab ad.o ae.o af.o;go_simp;exact p
     refine fP (φ:=FF (e.q*s.q) (g+l)) [4,8] (od _ _) (fun w hb=>?_) ?_
     . intro K p;go_simp;exact fB ((HX.o.below (b.o.trans (hb.mono b.o.size))).tC (HY.o.below (b.o.trans (hb.mono b.o.size))) a2.o) p
     refine fP (φ:=FF (dot k (qAt C) (qAt D)+e.q*s.q) (k*(g+l+1)+1+(g+l)+1)) [0,9] (od _ _) (fun w hb=>?_) ?_
     . intro v9 h9;intro K p;go_simp;exact fB ((N.o.below hb).DP h9 a1.o) p
     refine qr aL (by rfl) (by rfl) kK (fun x2 hb=>?_);simp only[nE,cH,bO,sR,Act.put,aU,cN,bX,Nat.reduceAdd,Nat.reduceBEq,gO,fS];intro v9 _ bb J K p;obtain⟨x',y',z',rfl⟩:=J.oe;obtain⟨o1,o2,o3⟩:=J.1.one;have am:=ns prog o1;have an:=ns prog o2;have ao:=ns prog o3;have r:=S.o.below hb S.o.lt;have f0:=r.free 0;have f1:=r.free 1;have f2:=r.free 2;have c0:=r.cell 0;have c1:=r.cell 1;have c2:=r.cell 2;simp only[aK,aI,aM]at c0 c1 c2;obtain⟨a6,ap,a3,a4⟩:=Ic J ((aj.o.below hb).set J) (ak.o.below hb ak.o.lt) (b.o.trans (hb.mono b.o.size));clear o1 o2 o3 r J hb;go_simp;refine p _ _ ?_;clear p c0 c1 c2 f0 f1 f2 am an ao;go_wp2;go_roundw
     case rel=> have ho:=((((cX G x2).setCell 0 x').setCell 1 y').setCell 2 z');exact⟨k+1,oO,by go_num,by rw[Q.o,show (k+1)*(g+l+1)+1=k*(g+l+1)+1+(g+l)+1 by rw[gV];omega];exact ap.o,a3.o.only ho (oB U.o),fU a4.o ho (dO U.o)⟩
     case measure=>exact mI
  .
   obtain rfl:k=n:=oO;obtain⟨x,y,z,d,A⟩:=P.o;have c0:=d.cell 0;have c1:=d.cell 1;have c2:=d.cell 2;have r0:=E.o.cell 0;have r1:=E.o.cell 1;have r2:=E.o.cell 2;have f0:=E.o.free 0;have f1:=E.o.free 1;have f2:=E.o.free 2;simp only[aK,aI,aM]at c0 c1 c2 r0 r1 r2;obtain⟨o1,o2,o3⟩:=A.1.one;have am:=ns prog o1;have an:=ns prog o2;have ao:=ns prog o3;have N:=Hi A;clear d A o1 o2 o3;go_wp2;have ho:=((((cX w.heap.size wr).setCell 0 x).setCell 1 y).setCell 2 z);refine bK (v:=.agg #[x,y,z]) (bG rfl _ _ w.heap.size 99 #[x,y,z] (0,0) _ rfl (((E.o.set 0 x).set 1 y).set 2 z) underlying99 rfl mm) rfl ?_;refine⟨_,rfl,fU X.o ho lZ,N.o.1.only ho E.o ?_,N.o.2⟩;intro i n
   match i with
   |0=>simp
   |1=>simp
   |2=>simp
   |i+3=>simp
end Go.Proofs.YtfgclhpgdanmfaaGreatDoor
