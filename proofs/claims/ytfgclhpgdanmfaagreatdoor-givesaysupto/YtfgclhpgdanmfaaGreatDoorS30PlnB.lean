import Derived.Test.YtfgclhpgdanmfaaGreatDoorS29StrA
namespace Go.Proofs.YtfgclhpgdanmfaaGreatDoor
set_option linter.defProp false
open Go.RowKit
open Go.Proofs.Tryz
set_option linter.unusedSimpArgs false
set_option linter.unusedVariables false
set_option maxHeartbeats 8000000
set_option maxRecDepth 1000000
variable{w w':Vz}{B K N b g i j k n:Nat}{a:Am}{t:RT}{vs:Ai}{D:Vv}
def stretch(p:Al)(v:cW):Rat:=p.2.2.1*(v (2*p.2.1) - v (2*p.1))+p.2.2.2*(v (2*p.2.1+1) - v (2*p.1+1))
def eT.all{w0:Vz}{L M:Am}(h:eT w0 w L)(k:wV w M):eT w0 w (L++M):=⟨h.base,h.glob,fun t a=>by
 rcases bD.1 a with a|a
 . exact h.ts t a
 . exact k t a⟩
def Rh(a1 a2 a3 av:Vx)(c1 c2 c3 cv i K:Nat)(F:Ad)(G:Ap)(hs:Ak)(b:B6)(p:Al)(j:Am)(w:Vz)(hg:∃m,w.cell? ⟨4,0,none⟩=some (.int .i64 m))(J:ja w a1 a2 a3 c1 c2 c3 F G hs)(hi:G[i]?=some b)(hb:wL 1048576 F b p)(n1:F.length<=10)(n2:G.length<=24)(k:lk w av j)(hl:j.length=2*F.length)(hk:∀t,t∈ j->t.2.2<=K)(hK:4*K<200000000000):
 Calls prog 74 #[.agg #[.slice a1 F.length c1,.slice a2 G.length c2,.slice a3 hs.length c3],.int .i64 i,.slice av j.length cv] w fun e w'=>∃g,e=.returned (.pointer (some ⟨g,0,none⟩))/\eT w w' [(g,stretch p (qv j),4*K+16777225)]:=by
 have ae:=Hi (fun u (hu:Bl w u)=>ME a1 a2 a3 c1 c2 c3 i F G hs b p u ((lM hg).below hu).glob (J.below hu) hi hb n1 n2);obtain⟨s,t,x1,y1,x2,y2,e1,e2,_⟩:=hb.ex;have hA:=hb.a;have hB:=hb.b;have an:=(gZ hi).1;have af:=(gZ e1).1;have ag:=(gZ e2).1;obtain⟨A,B,rx,ry⟩:=p;simp only at hA hB af ag;obtain⟨⟨g1,q1,k1⟩,I⟩:∃t,j[2*B]?=some t:=⟨j[2*B]' oO,gE _⟩;obtain⟨⟨g2,q2,k2⟩,h2⟩:∃t,j[2*A]?=some t:=⟨j[2*A]' oO,gE _⟩;obtain⟨⟨g3,q3,k3⟩,h3⟩:∃t,j[2*B+1]?=some t:=⟨j[2*B+1]' oO,gE _⟩;obtain⟨⟨g4,q4,k4⟩,h4⟩:∃t,j[2*A+1]?=some t:=⟨j[2*A+1]' oO,gE _⟩;have M:=mO I;have N:=mO h2;have P:=mO h3;have Q:=mO h4;have l1:=hk _ M;have l2:=hk _ N;have l3:=hk _ P;have l4:=hk _ Q;simp only at l1 l2 l3 l4;have ah:O (wV w [(g1,q1,K),(g2,q2,K),(g3,q3,K),(g4,q4,K)]):=Hi (fun x hx=>by
  simp only[aY,dI,ji]at hx;rcases hx with rfl|rfl|rfl|rfl
  . exact⟨(k.vs _ M).1,(k.vs _ M).2.1.mono l1,aF (k.vs _ M).2.2 l1⟩
  . exact⟨(k.vs _ N).1,(k.vs _ N).2.1.mono l2,aF (k.vs _ N).2.2 l2⟩
  . exact⟨(k.vs _ P).1,(k.vs _ P).2.1.mono l3,aF (k.vs _ P).2.2 l3⟩
  . exact⟨(k.vs _ Q).1,(k.vs _ Q).2.1.mono l4,aF (k.vs _ Q).2.2 l4⟩)
 have ai:O (stretch (A,B,rx,ry) (qv j)=rx*(q1 - q2)+ry*(q3 - q4)):=Hi (by
  simp only[stretch]
  rw[vT I,vT h2,vT h3,vT h4])
 obtain⟨R,vo,rfl,l,D0⟩:=k.at I;obtain⟨S,T,U,_,D1⟩:=k.at h2;cases U;obtain⟨S,T,U,_,D2⟩:=k.at h3;cases U;obtain⟨S,T,U,_,D3⟩:=k.at h4;cases U;simp only at D0 D1 D2 D3;have iI:((i:Int)<(G.length:Int)):=oO;obtain⟨X1,W⟩:=nm (2*B);obtain⟨X2,Y⟩:=nm (2*A);obtain⟨Y1,Z⟩:=nm (2*B+1);obtain⟨Y2,aa⟩:=nm (2*A+1);rw[W]at D0;rw[Y]at D1;rw[Z]at D2;rw[aa]at D3;have i1:(X1:Int)<(j.length:Int):=oO;have i2:(X2:Int)<(j.length:Int):=oO;have i3:(Y1:Int)<(j.length:Int):=oO;have i4:(Y2:Int)<(j.length:Int):=oO;have w1:IntKind.i64.wrap (2*(B:Int))=(X1:Int):=by rw[wrap_i64 _ oO oO];omega
 have w2:IntKind.i64.wrap (2*(A:Int))=(X2:Int):=by rw[wrap_i64 _ oO oO];omega
 have w3:IntKind.i64.wrap ((X1:Int)+1)=(Y1:Int):=by rw[wrap_i64 _ oO oO];omega
 have w4:IntKind.i64.wrap ((X2:Int)+1)=(Y2:Int):=by rw[wrap_i64 _ oO oO];omega
 clear W Y Z aa;obtain⟨HF,HI⟩:=Ia J hi;obtain⟨NT,ab⟩:=nm j.length;rw[ab]at i1 i2 i3 i4 ⊢;clear hg J hi hb e1 e2 k hl hk I h2 h3 h4 M N P Q l1 l2 l3 l4 ab;obtain⟨B0,H⟩:=nm w.heap.size;obtain⟨V,hV⟩:=nm (w.alloc (.cells #[.slice a1 F.length c1,.slice a2 G.length c2,.slice a3 hs.length c3] 26));have D:=Ua hV;have ad:=Uf hV H;obtain⟨HV,aj,ak⟩:=Ib hV H (ae.o V D.o);have ao:=D.o.size;clear hV H;go_enter func74,ntmps74;go_wp2_with fail;rw[HV.o];simp only[aj.o];go_fit ak.o;rintro e X0 ⟨bx,bv,rfl,c⟩;have C:=c.base;have E:=D.o.trans (C.mono D.o.size);obtain⟨-,f1,-⟩:=zc (ad.o.below C ad.o.lt);obtain⟨bb,bo,rfl,ap,f2,f3,_⟩:=(HF.o.below E).b.bar HI.o;rw[hA]at f2;rw[hB]at f3;obtain⟨X,hX⟩:=nm X0.drew;have h:Bl w X:=by rw[<-hX];exact E.drew
 have al:=Hi h;have d:O (eT X X [(bx,rx,8388611),(bv,ry,8388611),(g1,q1,K),(g2,q2,K),(g3,q3,K),(g4,q4,K)]):=Hi (by
  have I:=eT.all (L:=[(bx,rx,8388611),(bv,ry,8388611)]) c.lg (ah.o.below E);rw[<-hX]
  exact I.drew.lg)
 have n:R<X.heap.size:=oB h.size;obtain⟨q,r,y,z,am⟩:=Id (ce h l D0) (ce h l D1) (ce h l D2) (ce h l D3) hX;clear c C E D0 D1 D2 D3 hA hB hX h;go_wp2_with fail;go_region;rw[am.o];clear f1 f2 f3;obtain⟨d0,d1,d2,d3⟩:=Jc d.o.base n q.o r.o y.o z.o;go_wp2_with fail;go_region_held3 (fun v=>v.cell? ⟨R,vo+X1,none⟩=some (.pointer (some ⟨g1,0,none⟩))/\v.cell? ⟨R,vo+X2,none⟩=some (.pointer (some ⟨g2,0,none⟩))/\v.cell? ⟨R,vo+Y1,none⟩=some (.pointer (some ⟨g3,0,none⟩))/\v.cell? ⟨R,vo+Y2,none⟩=some (.pointer (some ⟨g4,0,none⟩))) ((first|(simp [*];done)|go_keep)) (first
  |
   (go_at_call_of 121 (Value.pointer (some ⟨g1,0,none⟩))
    apply cM;apply zP (w0:=X);(first|exact d.o|exact d.o.drew);(repeat(first|exact mH|apply mT));omega;rintro e wn ⟨b1,rfl,c⟩;clear d d0 d1 d2 d3;have d:=Hi c;clear c;obtain⟨d0,d1,d2,d3⟩:=Jc d.o.base n q.o r.o y.o z.o
    skip)
  |
   (go_at_call_of 37 (Value.pointer (some ⟨bx,0,none⟩))
    apply cM;apply zR (w0:=X);(first|exact d.o|exact d.o.drew);(repeat(first|exact mH|apply mT));omega;rintro e wn ⟨b2,rfl,c⟩;clear d d0 d1 d2 d3;have d:=Hi c;clear c;obtain⟨d0,d1,d2,d3⟩:=Jc d.o.base n q.o r.o y.o z.o
    skip)
  |
   (go_at_call_of 121 (Value.pointer (some ⟨g3,0,none⟩))
    apply cM;apply zP (w0:=X);(first|exact d.o|exact d.o.drew);(repeat(first|exact mH|apply mT));omega;rintro e wn ⟨b3,rfl,c⟩;clear d d0 d1 d2 d3;have d:=Hi c;clear c;obtain⟨d0,d1,d2,d3⟩:=Jc d.o.base n q.o r.o y.o z.o
    skip)
  |
   (go_at_call_of 37 (Value.pointer (some ⟨bv,0,none⟩))
    apply cM;apply zR (w0:=X);(first|exact d.o|exact d.o.drew);(repeat(first|exact mH|apply mT));omega;rintro e wn ⟨b4,rfl,c⟩;clear d d0 d1 d2 d3;have d:=Hi c;clear c;obtain⟨d0,d1,d2,d3⟩:=Jc d.o.base n q.o r.o y.o z.o
    skip)
  |
   (go_at_call_of 69 (Value.pointer (some ⟨b2,0,none⟩))
    apply cM;apply DK (w0:=X);(first|exact d.o|exact d.o.drew);(repeat(first|exact mH|apply mT));omega;rintro e wn ⟨b5,rfl,c⟩;clear d d0 d1 d2 d3;have d:=Hi c;clear c;obtain⟨d0,d1,d2,d3⟩:=Jc d.o.base n q.o r.o y.o z.o
    skip)
  |fail)
 all_goals
  clear d0 d1 d2 d3;go_wp2;go_ret;refine⟨b5,rfl,(by first|exact d.o|exact d.o.drew:eT X _ _).mono al.o (fun f J=>?_)⟩;obtain rfl:=bE.1 J;rw[ai.o];exact⟨_,bM _,by simp only;omega⟩
structure rE (w:Vz) (g:Nat) (ts:Am):Prop where
 blk:SB w g 63 (ts.map lS).toArray
 vs:wV w ts
def rE.below(h:rE w g a)(hb:Bl w w'):rE w' g a:=⟨h.blk.below hb h.blk.lt,h.vs.below hb⟩
def rE.cell(h:rE w g a)(b:a[i]?=some t):w.cell? ⟨g,i,none⟩=some (.pointer (some ⟨t.1,0,none⟩)):=by rw[h.blk.cell];simp[b,lS]
def rE.row(h:rE w g a):lk w (some ⟨g,0,none⟩) a:=⟨⟨fun j u b=>⟨g,0,rfl,h.blk.lt,by rw[cC,h.blk.cell];simpa using b⟩⟩,h.vs⟩
def rE.set{q:Rat}(h:rE w g a)(e:cQ w b q)(f:Fits q k)(hk:0<k):rE (w.setCell ⟨g,i,none⟩ (.pointer (some ⟨b,0,none⟩))) g (a.set i (b,q,k)):=by
 have j:cE g w (w.setCell ⟨g,i,none⟩ (.pointer (some ⟨b,0,none⟩))):=(cX g w).setCell _ _;have d:=FQ j h.blk (fun u l=>Du a u (sU l));refine⟨?_,fun t c=>?_⟩
 . have:=h.blk.set i (.pointer (some ⟨b,0,none⟩));rw[iT]
   simpa [lS] using this
 .
  rcases dN c with c|rfl
  . exact(h.vs.fp d) t c
  . exact⟨e.fp d,f,hk⟩
def N8(n:Nat):madeCells (Value.cells (.pointer none)) n=(List.replicate n (Value.pointer none)).toArray:=by
 have e:Value.cells (.pointer none)=#[.pointer none]:=by rfl
 rw[e];apply tT;rw[qI]
def LN(n:Nat)(d:n<=1048576)(w:Vz):(Instr.makeSlice 38 (.int .i64 n) (.int .i64 n)).run prog w=.ok (.slice (some ⟨w.heap.size,0,.none⟩) n n) (w.alloc (.cells (List.replicate n (Value.pointer none)).toArray 63)):=by obtain⟨i,a,h⟩:=aZ.1 J8;simp only[fZ]at h;obtain⟨b,c,hb⟩:=h;have:=qJ w 38 63 i _ underlying38 a b .i64 .i64 n n oO oO (rO hb) oO;rw[fC,c,eP,N8]at this;exact this
def Vq{x z:Ac}{l:Vv}(hk:k<n)(hl:l.length=k):(l++List.replicate (n - k) z).set k x=(l++ [x])++List.replicate (n - (k+1)) z:=by rw[show n - k=(n - (k+1))+1 by omega,j4,Mh _ _ oO,hl,fA,cN];simp
structure jg (w:Vz) (g n k:Nat) (ts:Am):Prop where
 blk:SB w g 63 (ts.map lS++List.replicate (n - k) (Value.pointer none)).toArray
 vs:wV w ts
 len:ts.length=k
 zero:∀t,t∈ ts->t.2.1=0/\t.2.2=1
def jg.below(h:jg w g n k a)(hb:Bl w w'):jg w' g n k a:=⟨h.blk.below hb h.blk.lt,h.vs.below hb,h.len,h.zero⟩
def jg.step{d:Am}(h:jg w g n k d)(hk:k<n)(f:cQ w b 0):jg (w.setCell ⟨g,k,none⟩ (.pointer (some ⟨b,0,none⟩))) g n (k+1) (d++ [(b,0,1)]):=by
 have i:cE g w (w.setCell ⟨g,k,none⟩ (.pointer (some ⟨b,0,none⟩))):=(cX g w).setCell _ _;have e:=FQ i h.blk (fun u c=>by
  simp only[ik,bD]at c;rcases c with c|c
  . exact Du d u c
  . obtain⟨_,rfl⟩:=fM.1 c
    exact⟨_,rfl⟩)
 refine⟨?_,fun t a=>?_,by simp[h.len],fun t a=>?_⟩
 . have:=h.blk.set k (.pointer (some ⟨b,0,none⟩));rw[aU,Vq hk (by rw[bF];exact h.len)]at this;rw[dH];exact this
 .
  rcases bD.1 a with a|a
  . exact(h.vs.fp e) t a
  . obtain rfl:=bE.1 a
    exact⟨f.fp e,nr,Nat.one_pos⟩
 .
  rcases bD.1 a with a|a
  . exact h.zero t a
  . obtain rfl:=bE.1 a
    exact⟨rfl,rfl⟩
structure LVal (ls:AE) (vs:Ai):Prop where
 len:vs.length=ls.length
 at_:∀(i:Nat)(l:L3)(p:Aw),ls[i]?=some l->vs[i]?=some p->p.1=l.j.toNat/\il l.x.data.toList p.2.1/\il l.y.data.toList p.2.2/\l.x.size<=1048576/\l.y.size<=1048576
def LVal.ex(a:AE)(g:∀l,l∈ a->l.x.size<=1048576/\l.y.size<=1048576):∃vs,LVal a vs:=by
 have h:∀i:Nat,∃p:Aw,∀l,a[i]?=some l->p.1=l.j.toNat/\il l.x.data.toList p.2.1/\il l.y.data.toList p.2.2/\l.x.size<=1048576/\l.y.size<=1048576:=fun i=>by
  rcases hi:a[i]? with _|l
  . exact⟨(0,0,0),fun b hb=>by cases hb⟩
  . obtain⟨x,k⟩:=j9 l.x.data.toList;obtain⟨y,m⟩:=j9 l.y.data.toList;have z:=g l (mO hi);exact⟨(l.j.toNat,x,y),fun b e=>by cases e;exact⟨rfl,k,m,z⟩⟩
 obtain⟨f,n⟩:=gQ h;refine⟨(List.range a.length).map f,sS,fun i l p hl d=>?_⟩;have c:=(gZ hl).1;rw[aP,gM c]at d;obtain rfl:=aD d;exact n i l hl
def LVal.Dc{a:AE}(h:LVal a vs)(b:∀(i:Nat)(x:L3),a[i]?=some x->qn n x.j):∀(i:Nat)(l:L3)(p:Aw),a[i]?=some l->vs[i]?=some p->wH n l p:=fun i l p hl c=>by obtain⟨d,e,f,g,k⟩:=h.at_ i l p hl c;obtain⟨k1,k2⟩:=b i l hl;exact⟨by rw[d];omega,oO,e,f,g,k⟩
abbrev kL(k:Nat):Nat:=k*4194306+1
def Vp(m:Nat):kL (m+1)=kL m+4194306:=by
 show (m+1)*4194306+1=m*4194306+1+4194306
 omega
def zB(nj en:Nat)(ls:AE)(vs:Ai)(w:Vz)(e:As)(w':Vz):Prop:=
 Below w.heap.size w w'/\∃c at_:Int,jI nj en ls c at_/\((c≠0/\e=.returned (.tuple #[.slice none 0 0,.agg #[.int .i64 c,.int .i64 at_]]))∨
  (c=0/\∃(g N:Nat)(ts:Am),N=2*nj/\e=.returned (.tuple #[.slice (some ⟨g,0,none⟩) N N,.agg #[.int .i64 0,.int .i64 0]])/\rE w' g ts/\ts.length=N/\∀(i:Nat)(t:RT),ts[i]?=some t->t.2.1= -pJ vs i/\t.2.2<=kL 20))
structure xC (w:Vz) (g N k:Nat) (vs:Ai) (ts:Am):Prop where
 blk:rE w g ts
 len:ts.length=N
 q:∀(i:Nat)(t:RT),ts[i]?=some t->t.2.1= -pJ (vs.take k) i/\t.2.2<=kL k
def xC.start(h:jg w g N N a):xC w g N 0 vs a:=by
 refine⟨⟨?_,h.vs⟩,h.len,fun i t b=>?_⟩
 . have:=h.blk;rw[fA]at this
   simpa using this
 . obtain⟨c,d⟩:=h.zero t (mO b);rw[c,d];exact⟨by simp[pJ],by simp[kL]⟩
def xC.step{b1 b2:Nat}{b:Am}{p:Aw}{u:RT}(h:xC w g N k vs b)(r:vs[k]?=some p)(n:b[2*p.1]?=some t)(o:b[2*p.1+1]?=some u){w1 w2:Vz}(f:Bl w w1)(v:cQ w1 b1 (t.2.1+p.2.1))(f1:Fits (t.2.1+p.2.1) (kL (k+1)))(j:Below w1.heap.size (w1.setCell ⟨g,2*p.1,none⟩ (.pointer (some ⟨b1,0,none⟩))) w2)(x:cQ w2 b2 (u.2.1+p.2.2))(f2:Fits (u.2.1+p.2.2) (kL (k+1))):
 xC (w2.setCell ⟨g,2*p.1+1,none⟩ (.pointer (some ⟨b2,0,none⟩))) g N (k+1) vs ((b.set (2*p.1) (b1,t.2.1+p.2.1,kL (k+1))).set (2*p.1+1) (b2,u.2.1+p.2.2,kL (k+1))):=by
 have y:=((h.blk.below f).set (i:=2*p.1) v f1 (by simp[kL]));have z:=y.below (by
  have e:(w1.setCell ⟨g,2*p.1,none⟩ (.pointer (some ⟨b1,0,none⟩))).heap.size=w1.heap.size:=by simp[World.setCell]
  unfold Bl;rw[e]
  exact j)
 have l:=(gZ n).1;have m:=(gZ o).1;refine⟨z.set x f2 (by simp[kL]),by simp[h.len],fun i s a=>?_⟩;rw[Fq r];by_cases c:i=2*p.1+1
 . rw[c,bP (by rw[aQ];exact m)]at a;obtain rfl:=aD a;rw[c,vW];refine⟨?_,aV _⟩;simp only;rw[(h.q _ _ o).1];grind
 .
  rw[bN (gH c)]at a;by_cases d:i=2*p.1
  . rw[d,bP l]at a;obtain rfl:=aD a;rw[d,vZ];refine⟨?_,aV _⟩;simp only;rw[(h.q _ _ n).1];grind
  . rw[bN (gH d)]at a;obtain⟨A,B⟩:=h.q i s a;refine⟨?_,aE B (by simp only[kL];omega)⟩;rw[A];unfold ng;rw[sT _ _ c,sT _ _ d]
def Vo(a1 a2 a3 al:Vx)(c1 c2 c3 cl nj nb nh:Nat)(H:AE)(vs:Ai)(w:Vz)(hg:∃m,w.cell? ⟨4,0,none⟩=some (.int .i64 m))(hl:eO L3.cells w al cl H)(hv:LVal H vs)(n1:nj<=10)(n2:nb<=24)(n3:nh<=20)(c8:H.length<=1048576):
 Calls prog 31 #[.agg #[.slice a1 nj c1,.slice a2 nb c2,.slice a3 nh c3],.slice al H.length cl] w (zB nj (nb+nh) H vs w):=by
 obtain⟨HL,HV,HG⟩:=Ib hl hv (lM hg);clear hl hv hg;obtain⟨F,af⟩:=nm w.heap.size;obtain⟨V,hV⟩:=nm ((w.alloc (.cells #[.slice a1 nj c1,.slice a2 nb c2,.slice a3 nh c3] 26)).alloc (.cells #[.int .i64 0,.int .i64 0] 41));have A:=Ub hV;have I:=Ug hV af;have L:=Uh hV af;obtain⟨ak,am⟩:=Ia hV af;have cc:O (V.heap.size=F+1+1):=Hi (by rw[<-hV,<-af];simp);have M:w.heap.size<=F+1:=oO;clear hV af;go_enter func31,ntmps31;by_cases cd:20<H.length
 . have q0:((H.length:Int) > 20):=oO;obtain⟨x0,x1,x2⟩:=lQ (I.o.below bR I.o.lt);have an:=Hi (Fx a1 a2 a3 c1 c2 c3 nj nb nh V n2 n3);rw[<-ak.o]at x0 x1 x2;rw[<-am.o]at x0 x1 x2;go_wp2_with fail;rw[ak.o];simp only[am.o];clear x0 x1 x2;go_fit an.o;rintro e v1 ⟨rfl,P⟩;obtain⟨ag,r⟩:=Ia (pC 2 ((nb:Int)+(nh:Int)) v1) P;clear P;go_wp2_with fail;go_fit ag.o;rintro e v2 ⟨rfl,Q⟩;have D:=Hi (r.o.trans (Q.mono r.o.size));clear Q;have d:=Hi (L.o.below D.o L.o.lt);obtain⟨z0,z1⟩:=xq d.o;have f0:=d.o.free 0;have f1:=d.o.free 1;go_wp2;refine bK (B7 rfl _ _ (F+1) 41 #[.int .i64 (2),.int .i64 ((nb:Int)+(nh:Int))] (0,0) _ rfl ((d.o.set 0 _).set 1 _) underlying41 rfl iy) rfl ?_;refine⟨((A.o.trans (D.o.mono A.o.size)).setCell (p:=⟨F+1,0,none⟩) M _).setCell (p:=⟨F+1,1,none⟩) M _,2,_,.inl ⟨cd,rfl,?_⟩,.inl ⟨dD,rfl⟩⟩;omega
 .
  have q0:¬((H.length:Int) > 20):=oO;obtain⟨N,hN⟩:=nm (2*nj);have eN:IntKind.i64.wrap (2*(nj:Int))=(N:Int):=by rw[wrap_i64 _ oO oO];omega
  have bj:=fun w=>LN N oO w
  obtain⟨MC,a0⟩:=nm ((List.replicate N (Value.pointer none)).toArray);rw[a0]at bj;obtain⟨V1,ao⟩:=nm (V.alloc (.cells MC 63));obtain⟨g,ap⟩:=nm V.heap.size;have bk:=Ua ao;have cf:O (jg V1 g N 0 []):=Hi ⟨by rw[<-ao,<-ap,<-a0];exact cK V _ _,(fun t ht=>by cases ht),rfl,(fun t ht=>by cases ht)⟩;have a4:=Hi hN;have c6:N<=20:=oO;obtain⟨cg,a5⟩:=Ia ao ap;have bl:O (F+1+1=g):=Hi (by rw[<-ap];exact cc.o.symm);obtain⟨x0,x1,x2⟩:=lQ (I.o.below bR I.o.lt);rw[<-ak.o]at x0 x1 x2;rw[<-am.o]at x0 x1 x2;clear hN a0 ao ap;go_wp2_with fail;rw[ak.o,cg.o];simp only[am.o];rw[bl.o];clear x0 x1 x2 bj;go_loopw [23] (fun iv wr=>∃(k:Nat)(G:Am),k<=N/\iv=.int .i64 k/\jg wr g N k G/\Below V.heap.size V wr) (fun iv _=>N - (intOf iv).toNat)
  case atStart=>exact⟨0,[],cJ _,rfl,cf.o,bk.o⟩
  case round=>
   obtain⟨k,G,hk,rfl,bm,ab⟩:=hrel;obtain⟨bn,z⟩:=Ia bm ab;clear bm ab;by_cases ch:k<N
   . have q1:((k:Int)<(N:Int)):=oO;have ci:=Hi (eT.tG ((HG.o.below (A.o.trans (z.o.mono A.o.size))).lg));go_wp2_with fail;go_fit ci.o;rintro e w2 ⟨b,rfl,a⟩;have D:=Hi a.base;have cj:=Hi (a.ts _ (bM _)).1;have ad:=bn.o.below a.base;have f0:=ad.blk.free k;have t0:w2.cell? ⟨g,k,none⟩=some (.pointer none):=by rw[ad.blk.cell];have e:(G.map lS++List.replicate (N - k) (Value.pointer none)).toArray[k]?=(G.map lS++List.replicate (N - k) (Value.pointer none))[k]?:=sS;rw[e,aX (by rw[bF,ad.len];exact aV _),bF,ad.len,fA,fW,aN oO]
     have ck:=Hi ad;clear a ad;go_wp2;go_roundw
     case rel=>exact⟨k+1,_,oO,by go_num,ck.o.step ch cj.o,(z.o.trans (D.o.mono z.o.size)).setCell (p:=⟨g,k,none⟩) (show V.heap.size<=g by have:=a5.o;omega) _⟩
     case measure=>exact mI
   .
    obtain rfl:k=N:=oO;have f:=Hi (xC.start (vs:=vs) bn.o);go_wp2_with fail;go_loopw [33] (fun iv wr=>∃(m:Nat)(G:Am),m<=H.length/\iv=.int .i64 m/\xC wr g k m vs G/\(∀(i:Nat)(x:L3),i<m->H[i]?=some x->qn nj x.j)/\Below V.heap.size V wr) (fun iv _=>H.length - (intOf iv).toNat)
    case atStart=>exact⟨0,G,cJ _,rfl,f.o,fun i x hi=>absurd hi (qA _),z.o⟩
    case round=>
     obtain⟨m,G,hm,rfl,bo,ay,ab⟩:=hrel;obtain⟨f,aq,z,U⟩:=Ic bo ay ab (A.o.trans (ab.mono A.o.size));clear bo ay ab;by_cases cm:m<H.length
     .
      obtain⟨l,hl⟩:∃l,H[m]?=some l:=⟨H[m],gE cm⟩;obtain⟨p,hp⟩:∃p,vs[m]?=some p:=⟨vs[m]'(oB HV.o.len),gE _⟩;obtain⟨br,bs,bt,c9,da⟩:=HV.o.at_ m l p hl hp;obtain⟨lb,lo,rfl,db,d0,d1,d2⟩:=(HL.o.below U.o).load hl;have q1:((m:Int)<(H.length:Int)):=oO;obtain⟨a6,cn,cp,cq,cr⟩:=Id hl hp bs bt br;clear hl hp bs bt br;by_cases hj:qn nj l.j
      .
       obtain⟨cs,ct⟩:=hj;obtain⟨J,hJ⟩:∃J:Nat,l.j=(J:Int):=⟨l.j.toNat,oO⟩;have HJ:=Hi hJ;have dc:J<nj:=oO;have ar:O (p.1=J):=Hi (oB cr.o);rw[hJ]at d0;clear cs ct hJ;obtain⟨X0,B⟩:=nm (wr.alloc (.cells #[.int .i64 J,.string l.x,.string l.y] 36));have E:=Ua B;have R:=Uc B;have C:=Hi (z.o.trans (E.o.mono z.o.size));obtain⟨u,-⟩:=zc R.o;obtain⟨x0,x1,x2⟩:=lQ (I.o.below C.o I.o.lt);have au:=Hi B;rw[<-B]at u x0 x1 x2;clear B;have g1:¬((J:Int)<0):=oO;have g2:¬((J:Int)≥(nj:Int)):=oO;obtain⟨X,hX⟩:=nm (2*J);obtain⟨Y,hY⟩:=nm (2*J+1);have wX:IntKind.i64.wrap (2*(J:Int))=(X:Int):=by rw[wrap_i64 _ oO oO];omega
       have wY:IntKind.i64.wrap ((X:Int)+1)=(Y:Int):=by rw[wrap_i64 _ oO oO];omega
       have dd:X<k:=oB a4.o;have de:Y<k:=oB a4.o;have iX:(X:Int)<(k:Int):=oO;have iY:(Y:Int)<(k:Int):=oO;have cu:O (X≠Y):=Hi oO;obtain⟨⟨tb,tq,tk⟩,ah⟩:∃t,G[X]?=some t:=⟨G[X]'(oB f.o.len),gE _⟩;obtain⟨⟨ub,uq,uk⟩,ai⟩:∃t,G[Y]?=some t:=⟨G[Y]'(oB f.o.len),gE _⟩;obtain⟨KM,ae⟩:=nm (kL m);have df:KM<=83886121:=by rw[<-ae];simp only[kL];omega
       have bu:O (kL (m+1)=KM+4194306):=Hi (by rw[<-ae];exact Vp m);have a7:tk<=KM:=by rw[<-ae];exact(f.o.q X _ ah).2
       have a8:uk<=KM:=by rw[<-ae];exact(f.o.q Y _ ai).2
       have vt:=f.o.blk.vs _ (mO ah);have vu:=f.o.blk.vs _ (mO ai);have a9:O (cQ wr tb tq/\Fits tq KM/\0<KM):=Hi ⟨vt.1,vt.2.1.mono a7,aF vt.2.2 a7⟩;have bv:O (cQ wr ub uq/\Fits uq KM/\0<KM):=Hi ⟨vu.1,vu.2.1.mono a8,aF vu.2.2 a8⟩;have cv:O (G[2*p.1]?=some (tb,tq,tk)):=Hi (by rw[ar.o,hX];exact ah);have bw:O (G[2*p.1+1]?=some (ub,uq,uk)):=Hi (by rw[ar.o,hY];exact ai);have bx:O (2*p.1=X):=Hi (by rw[ar.o,hX]);have bz:O (2*p.1+1=Y):=Hi (by rw[ar.o,hY]);have ba:O (X0.cell? ⟨g,X,none⟩=some (.pointer (some ⟨tb,0,none⟩))):=Hi ((f.o.blk.below E.o).cell ah);have av:O (wr.cell? ⟨g,Y,none⟩=some (.pointer (some ⟨ub,0,none⟩))):=Hi (f.o.blk.cell ai);have W:O (X0.cell? ⟨wr.heap.size,0,none⟩=some (.int .i64 (J:Int))):=Hi (R.o.cell 0);have bb:O (X0.cell? ⟨wr.heap.size,1,none⟩=some (.string l.x)):=Hi (R.o.cell 1);have b0:=(f.o.blk.below E.o).blk.lt;have b4:=R.o.lt;obtain⟨s,dg⟩:=Ia (((HG.o.below (U.o.trans (E.o.mono U.o.size))).lg).put (a9.o.1.below E.o) a9.o.2.1 a9.o.2.2) ae;clear hX hY ah ai ae a7 a8 vt vu;go_wp2_with fail;rw[au.o];clear u x0 x1 x2 d0 d1 d2;have u:=W.o;have c1:=bb.o;have o0:=ba.o;refine dK.begin (S:=fun w':World=>w'.cell? ⟨wr.heap.size,0,none⟩=some (.int .i64 (J:Int))/\w'.cell? ⟨wr.heap.size,1,none⟩=some (.string l.x)/\w'.cell? ⟨g,X,none⟩=some (.pointer (some ⟨tb,0,none⟩))) (k:=16) kK ?_;have c:(fun w':World=>w'.cell? ⟨wr.heap.size,0,none⟩=some (.int .i64 (J:Int))/\w'.cell? ⟨wr.heap.size,1,none⟩=some (.string l.x)/\w'.cell? ⟨g,X,none⟩=some (.pointer (some ⟨tb,0,none⟩))) X0.drew:=⟨u,c1,o0⟩;refine xG [0,1,2,3,4,5,6,7,8,9,10,11,12] ?_
       iterate 13
        refine xH (v:=?_) (by rfl) kK kK kK kK iZ c (fT ⟨by rfl,?_⟩) ?_
        rotate_left 1
        (focus(intro w aa;(try dsimp only at aa);go_simp;(try with_reducible rfl)));(try simp only[Act.put,sA,sB,sC])
       refine qT ?_;clear c;refine rh (i:=13) kK rfl (fun K T=>?_);go_simp;apply cM;apply zQ (w0:=X0) (n:=1048576);exact s.o.drew;omega;omega;rintro e wo ⟨q,hq,bq,rfl,a⟩;rw[hq.inj cp.o]at a;clear s;have s:=Hi a;clear hq a;clear u c1 o0;obtain⟨u,c1⟩:=Ja s.o.base b4 W.o bb.o;have o0:=ce s.o.base b0 ba.o;refine T.out _ _ (fun _=>⟨u,c1,o0⟩) ?_;clear T K;(try simp only[Act.put,sA,sB,sC]);refine rh (i:=14) kK rfl (fun K T=>?_);go_simp;apply cM;apply DK (w0:=X0);exact s.o;(repeat(first|exact mH|apply mT));omega;rintro e wn ⟨b3,rfl,a⟩;clear s;have s:=Hi a;clear a;clear u c1 o0;obtain⟨u,c1⟩:=Ja s.o.base b4 W.o bb.o;have o0:=ce s.o.base b0 ba.o;have f0:=((f.o.blk.below E.o).below s.o.base).blk.free X;refine T.out _ _ (fun _=>⟨u,c1,o0⟩) ?_;clear T K;(try simp only[Act.put,sA,sB,sC]);have c:(fun w':World=>w'.cell? ⟨wr.heap.size,0,none⟩=some (.int .i64 (J:Int))/\w'.cell? ⟨wr.heap.size,1,none⟩=some (.string l.x)/\w'.cell? ⟨g,X,none⟩=some (.pointer (some ⟨tb,0,none⟩))) wn:=⟨u,c1,o0⟩;refine DN (i:=15) (v:=?_) rfl kK kK kK kK (fun _ _ _ h=>h) (fT ⟨by rfl,?_⟩) c ?_
       rotate_left 1
       (focus(intro w aa;(try dsimp only at aa);go_simp;(try with_reducible rfl)));(try simp only[Act.put,sA,sB,sC]);clear c;refine rh (i:=16) kK rfl (fun K T=>?_);go_simp;refine T.out _ _ (fun h=>absurd rfl h) ?_;clear T K;(try simp only[Act.put,sA,sB,sC]);refine vD kK ?_ _;clear u c1 o0 f0;have h1:=s.o.ts _ (bM _);have r:=Hi (E.o.trans (s.o.base.mono E.o.size));have b5:O (cQ wn b3 (tq+p.2.1)):=Hi h1.1;have az:O (Fits (tq+p.2.1) (KM+4194306)):=Hi (h1.2.1.mono (by simp only;omega));obtain⟨Z,hZ⟩:=nm (wn.setCell ⟨g,X,none⟩ (.pointer (some ⟨b3,0,none⟩)));have aj:rE Z g (G.set X (b3,tq+p.2.1,KM+4194306)):=by rw[<-hZ];exact(f.o.blk.below r.o).set h1.1 az.o oO
       have bc:cE g wn Z:=by rw[<-hZ];exact(cX g wn).setCell _ _
       have b7:=f.o.blk.blk.lt;have aw:=(R.o.below s.o.base R.o.lt).only bc oO;have bd:=(U.o.trans (r.o.mono U.o.size)).trans (bc.below (by have e1:=a5.o;have e2:=A.o.size;omega) (aE U.o.size r.o.size));have be:(G.set X (b3,tq+p.2.1,KM+4194306))[Y]?=some (ub,uq,uk):=by rw[bN cu.o,<-bz.o];exact bw.o
       have b8:=aj.vs _ (mO be);have s:O (eT Z Z [(ub,uq,KM)]):=Hi ((HG.o.below bd).lg.put b8.1 bv.o.2.1 bv.o.2.2);have W:O (Z.cell? ⟨wr.heap.size,0,none⟩=some (.int .i64 (J:Int))):=Hi (aw.cell 0);have bf:O (Z.cell? ⟨wr.heap.size,2,none⟩=some (.string l.y)):=Hi (aw.cell 2);have av:O (Z.cell? ⟨g,Y,none⟩=some (.pointer (some ⟨ub,0,none⟩))):=Hi (aj.cell be);have b9:=aw.lt;have ca:=aj.blk.lt;obtain⟨cw,ax,dh⟩:=Ib aj hZ bd;have u:=W.o;have c2:=bf.o;have o1:=av.o;clear h1 aj bc b7 aw bd be b8 hZ;go_wp2_with fail;rw[ax.o];refine dK.begin (S:=fun w':World=>w'.cell? ⟨wr.heap.size,0,none⟩=some (.int .i64 (J:Int))/\w'.cell? ⟨wr.heap.size,2,none⟩=some (.string l.y)/\w'.cell? ⟨g,Y,none⟩=some (.pointer (some ⟨ub,0,none⟩))) (k:=18) kK ?_;have c:(fun w':World=>w'.cell? ⟨wr.heap.size,0,none⟩=some (.int .i64 (J:Int))/\w'.cell? ⟨wr.heap.size,2,none⟩=some (.string l.y)/\w'.cell? ⟨g,Y,none⟩=some (.pointer (some ⟨ub,0,none⟩))) Z.drew:=⟨u,c2,o1⟩;refine xG [0,1,2,3,4,5,6,7,8,9,10,11,12,13,14] ?_
       iterate 15
        refine xH (v:=?_) (by rfl) kK kK kK kK iZ c (fT ⟨by rfl,?_⟩) ?_
        rotate_left 1
        (focus(intro w aa;(try dsimp only at aa);go_simp;(try with_reducible rfl)));(try simp only[Act.put,sA,sB,sC])
       refine qT ?_;clear c;refine rh (i:=15) kK rfl (fun K T=>?_);go_simp;apply cM;apply zQ (w0:=Z) (n:=1048576);exact s.o.drew;omega;omega;rintro e wo ⟨q,hq,bq,rfl,a⟩;rw[hq.inj cq.o]at a;clear s;have s:=Hi a;clear hq a;clear u c2 o1;obtain⟨u,c2⟩:=Ja s.o.base b9 W.o bf.o;have o1:=ce s.o.base ca av.o;refine T.out _ _ (fun _=>⟨u,c2,o1⟩) ?_;clear T K;(try simp only[Act.put,sA,sB,sC]);refine rh (i:=16) kK rfl (fun K T=>?_);go_simp;apply cM;apply DK (w0:=Z);exact s.o;(repeat(first|exact mH|apply mT));omega;rintro e wm ⟨b6,rfl,a⟩;clear s;have s:=Hi a;clear a;clear u c2 o1;obtain⟨u,c2⟩:=Ja s.o.base b9 W.o bf.o;have o1:=ce s.o.base ca av.o;have f0:=(cw.o.below s.o.base).blk.free Y;refine T.out _ _ (fun _=>⟨u,c2,o1⟩) ?_;clear T K;(try simp only[Act.put,sA,sB,sC]);have c:(fun w':World=>w'.cell? ⟨wr.heap.size,0,none⟩=some (.int .i64 (J:Int))/\w'.cell? ⟨wr.heap.size,2,none⟩=some (.string l.y)/\w'.cell? ⟨g,Y,none⟩=some (.pointer (some ⟨ub,0,none⟩))) wm:=⟨u,c2,o1⟩;refine DN (i:=17) (v:=?_) rfl kK kK kK kK (fun _ _ _ h=>h) (fT ⟨by rfl,?_⟩) c ?_
       rotate_left 1
       (focus(intro w aa;(try dsimp only at aa);go_simp;(try with_reducible rfl)));(try simp only[Act.put,sA,sB,sC]);clear c;refine rh (i:=18) kK rfl (fun K T=>?_);go_simp;refine T.out _ _ (fun h=>absurd rfl h) ?_;clear T K;(try simp only[Act.put,sA,sB,sC]);refine vD kK ?_ _;clear u c2 o1 f0;have h2:=s.o.ts _ (bM _);have bg:=f.o.step (b1:=b3) (b2:=b6) (w1:=wn) cn.o cv.o bw.o r.o b5.o (by rw[bu.o];exact az.o) (w2:=wm) (by
        rw[bx.o,ax.o];have e:=s.o.base;unfold Bl at e;have es:Z.heap.size=wn.heap.size:=by rw[<-ax.o];simp[World.setCell]
        rw[es]at e
        exact e) h2.1 (by rw[bu.o];exact h2.2.1.mono (by simp only;omega))
       rw[bz.o,bx.o]at bg;have cx:=Hi bg;have cy:O (Bl V (wm.setCell ⟨g,Y,none⟩ (.pointer (some ⟨b6,0,none⟩)))):=Hi (by
        have e1:V.heap.size<=g:=oB a5.o;have b1:=z.o.trans (r.o.mono z.o.size);have b2:Bl V Z:=by rw[<-ax.o];exact b1.setCell (p:=⟨g,X,none⟩) e1 _
        exact(b2.trans (s.o.base.mono b2.size)).setCell (p:=⟨g,Y,none⟩) e1 _)
       have cz:O (∀(i:Nat)(x:L3),i<m+1->H[i]?=some x->qn nj x.j):=Hi (fun i x hi hx=>by
        by_cases c4:i<m
        . exact aq.o i x c4 hx
        . obtain rfl:i=m:=oO;obtain rfl:=aD (a6.o.symm.trans hx);rw[HJ.o]
          exact⟨oO,oO⟩)
       clear h2 bg;go_wp2;go_roundw
       case rel=>exact⟨m+1,_,oO,by go_num,cx.o,cz.o,cy.o⟩
       case measure=>exact mI
      . obtain⟨j,bh⟩:=nm l.j;rw[bh]at d0 hj;obtain⟨cb,bi⟩:=Ia bh hj;clear bh;obtain⟨X0,B⟩:=nm (wr.alloc (.cells #[.int .i64 j,.string l.x,.string l.y] 36));have E:=Ua B;have R:=Uc B;have C:=Hi (z.o.trans (E.o.mono z.o.size));obtain⟨u,-⟩:=zc R.o;obtain⟨x0,x1,x2⟩:=lQ (I.o.below C.o I.o.lt);have au:=Hi B;rw[<-B]at u x0 x1 x2;clear B;have an:=Hi (Fx a1 a2 a3 c1 c2 c3 nj nb nh X0 n2 n3);have wS:IntKind.i64.wrap ((nb:Int)+(nh:Int)+(m:Int))=(nb:Int)+(nh:Int)+(m:Int):=wrap_i64 _ oO oO;by_cases c7:j<0
        . go_wp2_with fail;rw[au.o];clear u x0 x1 x2 d0 d1 d2;go_fit an.o;rintro e v1 ⟨rfl,P⟩;obtain⟨r,ag⟩:=Ia (C.o.trans (P.mono C.o.size)) (pC 4 ((nb:Int)+(nh:Int)+(m:Int)) v1);clear P;go_wp2_with fail;go_fit ag.o;rintro e v2 ⟨rfl,Q⟩;have D:=Hi (r.o.trans (Q.mono r.o.size));clear Q;have d:=Hi (L.o.below D.o L.o.lt);obtain⟨z0,z1⟩:=xq d.o;have f0:=d.o.free 0;have f1:=d.o.free 1;go_wp2;refine bK (B7 rfl _ _ (F+1) 41 #[.int .i64 (4),.int .i64 ((nb:Int)+(nh:Int)+(m:Int))] (0,0) _ rfl ((d.o.set 0 _).set 1 _) underlying41 rfl iy) rfl ?_;refine⟨((A.o.trans (D.o.mono A.o.size)).setCell (p:=⟨F+1,0,none⟩) M _).setCell (p:=⟨F+1,1,none⟩) M _,4,_,.inr ⟨oO,.inl ⟨m,l,a6.o,aq.o,fun h=>bi.o (cb.o ▸ h),rfl,?_⟩⟩,.inl ⟨dD,rfl⟩⟩;omega
        . have di:(j≥(nj:Int)):=Int.not_lt.1 fun h=>bi.o ⟨oO,h⟩
          go_wp2_with fail;rw[au.o];clear u x0 x1 x2 d0 d1 d2;go_fit an.o;rintro e v1 ⟨rfl,P⟩;obtain⟨r,ag⟩:=Ia (C.o.trans (P.mono C.o.size)) (pC 4 ((nb:Int)+(nh:Int)+(m:Int)) v1);clear P;go_wp2_with fail;go_fit ag.o;rintro e v2 ⟨rfl,Q⟩;have D:=Hi (r.o.trans (Q.mono r.o.size));clear Q;have d:=Hi (L.o.below D.o L.o.lt);obtain⟨z0,z1⟩:=xq d.o;have f0:=d.o.free 0;have f1:=d.o.free 1;go_wp2;refine bK (B7 rfl _ _ (F+1) 41 #[.int .i64 (4),.int .i64 ((nb:Int)+(nh:Int)+(m:Int))] (0,0) _ rfl ((d.o.set 0 _).set 1 _) underlying41 rfl iy) rfl ?_;refine⟨((A.o.trans (D.o.mono A.o.size)).setCell (p:=⟨F+1,0,none⟩) M _).setCell (p:=⟨F+1,1,none⟩) M _,4,_,.inr ⟨oO,.inl ⟨m,l,a6.o,aq.o,fun h=>bi.o (cb.o ▸ h),rfl,?_⟩⟩,.inl ⟨dD,rfl⟩⟩;omega
     . obtain rfl:m=H.length:=oO;have d:=Hi (L.o.below z.o L.o.lt);obtain⟨z0,z1⟩:=xq d.o;have f0:=d.o.free 0;have f1:=d.o.free 1;have c5:O (∀(i:Nat)(t:RT),G[i]?=some t->t.2.1= -pJ vs i/\t.2.2<=kL 20):=Hi (fun i t ht=>by
        obtain⟨h1,h2⟩:=f.o.q i t ht;rw[<-HV.o.len,dB]at h1
        exact⟨h1,aE h2 (by simp only[kL];omega)⟩)
       go_wp2;refine bK (B7 rfl _ _ (F+1) 41 #[.int .i64 (0),.int .i64 (0)] (0,0) _ rfl ((d.o.set 0 _).set 1 _) underlying41 rfl iy) rfl ?_;have ho:cE (F+1) wr ((wr.setCell ⟨F+1,0,none⟩ (.int .i64 0)).setCell ⟨F+1,1,none⟩ (.int .i64 0)):=((cX _ _).setCell _ _).setCell _ _;refine⟨(U.o.setCell (p:=⟨F+1,0,none⟩) M _).setCell (p:=⟨F+1,1,none⟩) M _,0,0,.inr ⟨oO,.inr ⟨fun i x hx=>aq.o i x (gZ hx).1 hx,rfl,rfl⟩⟩,.inr ⟨rfl,g,k,G,a4.o.symm,rfl,⟨f.o.blk.blk.only ho (oB bl.o),fun t ht=>?_⟩,f.o.len,c5.o⟩⟩;obtain⟨v1,v2,v3⟩:=f.o.blk.vs t ht;exact⟨v1.sf ho d.o dD (fun i n h=>by match i,h with|0,h=>simp at h|1,h=>simp at h|i+2,h=>simp at h),v2,v3⟩
structure PR where
 b:Nat
 cap:Nat
 ts:List RT
 sp:List Value
abbrev AF:=List PR
def PR.val(r:PR):Value:=.slice (some ⟨r.b,0,none⟩) r.ts.length r.cap
def PR.cells(r:PR):List Value:=r.ts.map lS++r.sp
def PR.put(r:PR)(j:Nat)(t:RT):PR:=⟨r.b,r.cap,r.ts.set j t,r.sp⟩
def oH(ts:Am):cW:=fun i=>match ts[i]? with
 |some t=>t.2.1
 |none=>0
def PR.q(r:PR):cW:=oH r.ts
def Dv(h:a[i]?=some t):oH a i=t.2.1:=by simp only[oH,h]
def ND(h:a.length<=i):oH a i=0:=by simp only[oH,aO h]
def PR.Ce(r:PR)(j:Nat)(t:RT):(r.put j t).val=r.val:=by simp[PR.put,PR.val]
def jy.of_val(r:PR):jy r.val:=⟨_,_,_,rfl⟩
def FC:63≠81:=dD
def NC:3≠81:=dD
def NB:3≠63:=dD
structure Fs (w w':Vz):Prop where
 size:w.heap.size<=w'.heap.size
 keep:∀b i u,w.cell? ⟨b,i,none⟩=some u->¬jy u->w'.heap[b]?=w.heap[b]?
def Fs.cell(h:Fs w w'){u:Ac}(a:w.cell? ⟨b,i,none⟩=some u)(hk:¬jy u)(j:Nat):w'.cell? ⟨b,j,none⟩=w.cell? ⟨b,j,none⟩:=bJ (w:=w) (h.keep b i u a hk)
def Fs.iw{t:Vr}{C:Vw}(c:cE g w w')(d:SB w g t C)(hC:∀u,u∈ C.toList->jy u):Fs w w':=by refine⟨c.size,fun b i u a hk=>c.block b (bI _ _ a) ?_⟩;rintro rfl;rw[d.cell]at a;exact hk (hC u (mO (by rw[dF];exact a)))
def T6(x:Bool):¬jy (.bool x):=fun ⟨_,_,_,e⟩=>by cases e
def Ii(k:AM)(n:Int):¬jy (.int k n):=fun ⟨_,_,_,e⟩=>by cases e
def Row.fs{k:AM}{a:Vx}{cap:Nat}{l:Vy}(h:Row k w a cap l)(c:Fs w w'):Row k w' a cap l:=by
 refine⟨h.fit,?_,fun i g=>?_⟩
 .
  rcases h.shape with d|⟨e,b,rfl,j⟩
  . exact .inl d
  . exact .inr ⟨e,b,rfl,by have:=c.size;omega⟩
 . obtain⟨e,b,d,j,f⟩:=h.cell i g
   exact⟨e,b,d,by have:=c.size;omega,(c.cell f (Ii _ _) _).trans f⟩
def cQ.fs{q:Rat}(h:cQ w b q)(c:Fs w w'):cQ w' b q:=by obtain⟨D,f,c1,g,i,c2,j,a,k⟩:=h;refine⟨D,f,c1,g,i,c2,j,⟨?_,⟨a.num.row.fs c,a.num.num,a.num.short⟩,⟨a.den.row.fs c,a.den.num,a.den.short⟩⟩,k⟩;have d:=a.sb;have e:=c.keep b 0 _ (by rw[d.cell];rfl) (T6 _);unfold SB at d ⊢;rw[e];exact d
structure qj (w:Vz) (B g:Nat) (zs:Vv) (rs:List PR):Prop where
 blk:SB w g 81 (rs.map PR.val++zs).toArray
 room:∀u,u∈ zs->jy u
 low:B<=g
 row:∀r,r∈ rs->SB w r.b 63 r.cells.toArray/\B<=r.b/\(∀u,u∈ r.sp->uD u)/\r.ts.length<=r.cap
 vs:∀r,r∈ rs->wV w r.ts
 apart:∀(i j:Nat)(a b:PR),i≠j->rs[i]?=some a->rs[j]?=some b->a.b≠b.b
def qj.below{b:Vv}{rs:List PR}(h:qj w B g b rs)(hb:Bl w w'):qj w' B g b rs:=
 ⟨h.blk.below hb h.blk.lt,h.room,h.low,fun r a=>⟨(h.row r a).1.below hb (h.row r a).1.lt,(h.row r a).2⟩,fun r a=>(h.vs r a).below hb,h.apart⟩
def qj.Jm{b:Vv}{rs:List PR}{r:PR}(h:qj w B g b rs)(a:rs[i]?=some r):w.cell? ⟨g,i,none⟩=some r.val:=by rw[h.blk.cell,aK,aR (sU ((gZ a).1))];simp[a]
def qj.num{c:Vv}{rs:List PR}{r:PR}(h:qj w B g c rs)(d:rs[i]?=some r)(a:r.ts[j]?=some t):w.cell? ⟨r.b,j,none⟩=some (.pointer (some ⟨t.1,0,none⟩)):=by rw[(h.row r (mO d)).1.cell];have hl:=(gZ a).1;simp only[PR.cells,aK];rw[aR (sU hl)];simp[a,lS]
def qj.free{a:Vv}{rs:List PR}{r:PR}(h:qj w B g a rs)(c:rs[i]?=some r):w.frozen? ⟨r.b,j,none⟩=false:=(h.row r (mO c)).1.free j
def qj.val{a:Vv}{rs:List PR}{r:PR}(h:qj w B g a rs)(b:rs[i]?=some r)(c:r.ts[j]?=some t):cQ w t.1 t.2.1/\Fits t.2.1 t.2.2/\0<t.2.2:=h.vs r (mO b) t (mO c)
def qj.yD{rs:List PR}{s t:PR}(h:qj w B g D rs)(hb:rs[b]?=some s)(hk:rs[k]?=some t):
 qj ((w.setCell ⟨g,k,none⟩ s.val).setCell ⟨g,b,none⟩ t.val) B g D ((rs.set k s).set b t)/\cE g w ((w.setCell ⟨g,k,none⟩ s.val).setCell ⟨g,b,none⟩ t.val):=by
 have p:cE g w ((w.setCell ⟨g,k,none⟩ s.val).setCell ⟨g,b,none⟩ t.val):=((cX g w).setCell _ _).setCell _ _;have f:=(gZ hb).1;have l:=(gZ hk).1;have c:∀r,r∈ (rs.set k s).set b t->r∈ rs:=fun r a=>by
  rcases dN a with a|rfl
  . rcases dN a with a|rfl
    . exact a
    . exact mO hb
  . exact mO hk
 have q:=Fs.iw p h.blk (fun x d=>by
  simp only[ik,bD,bZ]at d;rcases d with ⟨y,_,rfl⟩|d
  . exact jy.of_val y
  . exact h.room x d)
 have v:=fun r a=>(h.row r a).1.unlike h.blk FC
 have z:∀r,r∈ rs->wV ((w.setCell ⟨g,k,none⟩ s.val).setCell ⟨g,b,none⟩ t.val) r.ts:=fun r a u E=>by obtain⟨F,G⟩:=h.vs r a u E;exact⟨F.fs q,G⟩
 refine⟨⟨?_,h.room,h.low,fun r a=>⟨(h.row r (c r a)).1.only p (v r (c r a)),(h.row r (c r a)).2⟩,fun r a=>z r (c r a),?_⟩,p⟩
 . have:=(h.blk.set k s.val).set b t.val;rw[aU,aU,uZ _ _ (sU l),uZ _ _ (sU f)]at this;rw[iT,iT];exact this
 .
  intro i j x y H d I;have m:∀(i:Nat)(x:PR),((rs.set k s).set b t)[i]?=some x->∃e,rs[e]?=some x/\(i=b/\e=k∨i≠b/\i=k/\e=b∨i≠b/\i≠k/\e=i):=fun i x d=>by
   by_cases n:i=b
   . rw[n,bP (by rw[aQ];exact f)]at d;obtain rfl:=aD d;exact⟨k,hk,.inl ⟨n,rfl⟩⟩
   . rw[bN (gH n)]at d;by_cases o:i=k
     . rw[o,bP l]at d;obtain rfl:=aD d;exact⟨b,hb,.inr (.inl ⟨n,o,rfl⟩)⟩
     . rw[bN (gH o)]at d
       exact⟨i,d,.inr (.inr ⟨n,o,rfl⟩)⟩
  obtain⟨e,A,K⟩:=m i x d;obtain⟨J,C,L⟩:=m j y I;exact h.apart e J x y oO A C
def qj.put{nb:Nat}{q:Rat}{rs:List PR}{r:PR}(h:qj w B g D rs)(k:rs[i]?=some r)(E:j<r.ts.length)(F:cQ w nb q)(G:Fits q K)(H:0<K):
 qj (w.setCell ⟨r.b,j,none⟩ (.pointer (some ⟨nb,0,none⟩))) B g D (rs.set i (r.put j (nb,q,K)))/\cE r.b w (w.setCell ⟨r.b,j,none⟩ (.pointer (some ⟨nb,0,none⟩))):=by
 have t:cE r.b w (w.setCell ⟨r.b,j,none⟩ (.pointer (some ⟨nb,0,none⟩))):=(cX r.b w).setCell _ _;have f:=h.row r (mO k);have d:=(gZ k).1;have z:=FQ t f.1 (fun u c=>by
  simp only[PR.cells,ik,bD]at c;rcases c with c|c
  . exact Du r.ts u c
  . exact f.2.2.1 u c)
 have A:=fun m s a o=>h.apart m i s r a o k
 refine⟨⟨?_,h.room,h.low,fun s o=>?_,fun s o=>?_,?_⟩,t⟩
 .
  rw[iT,PR.Ce];have e:(rs.map PR.val).set i r.val=rs.map PR.val:=by
   apply fK;intro m;by_cases e:m=i
   . subst e;rw[bP (sU d)];simp[k]
   . rw[bN (gH e)]
  rw[e];exact h.blk.only t (fun e=>(f.1.unlike h.blk FC) e.symm)
 .
  obtain⟨m,a⟩:=dS.1 o;by_cases e:m=i
  . subst e;rw[bP d]at a;obtain rfl:=aD a;refine⟨?_,f.2.1,f.2.2.1,by simpa [PR.put] using f.2.2.2⟩;have:=f.1.set j (.pointer (some ⟨nb,0,none⟩));have e:(r.put j (nb,q,K)).cells.toArray=r.cells.toArray.setIfInBounds j (.pointer (some ⟨nb,0,none⟩)):=by simp only[PR.put,PR.cells,aU,iT];rw[uZ _ _ (sU E)];rfl
    rw[e];exact this
  . rw[bN (gH e)]at a
    exact⟨(h.row s (mO a)).1.only t (A m s e a),(h.row s (mO a)).2⟩
 .
  obtain⟨m,a⟩:=dS.1 o;by_cases e:m=i
  . subst e;rw[bP d]at a;obtain rfl:=aD a;intro u c;rcases dN c with c|rfl
    . exact((h.vs r (mO k)).fp z) u c
    . exact⟨F.fp z,G,H⟩
  . rw[bN (gH e)]at a
    exact(h.vs s (mO a)).fp z
 .
  intro m n x y C l I;have p:∀(m:Nat)(x:PR),(rs.set i (r.put j (nb,q,K)))[m]?=some x->∃v,rs[m]?=some v/\v.b=x.b:=fun m x l=>by
   by_cases e:m=i
   . rw[e,bP d]at l;obtain rfl:=aD l;exact⟨r,by rw[e];exact k,rfl⟩
   . rw[bN (gH e)]at l
     exact⟨x,l,rfl⟩
  obtain⟨v,J,L⟩:=p m x l;obtain⟨M,N,O⟩:=p n y I;rw[<-L,<-O];exact h.apart m n v M C J N
def cQ.D4{q:Rat}{v:Ac}{xs:Vv}(h:cQ w b q)(d:Grow w B 3 1 zC v n xs)(a:w.grownBy w' v.ownBlock):cQ w' b q:=by
 rcases ho:v.ownBlock with _|g
 . rw[ho]at a
   exact h.below ⟨a.os,a.tape,a.output,a.size,fun k hk=>a.block k hk sS⟩
 . obtain⟨C,f,j⟩:=d.sb ho;rw[ho]at a;refine h.sf ⟨a.os,a.tape,a.output,a.size,fun k hk c=>a.block k hk (sU c)⟩ f dD (fun i m e=>?_);obtain⟨x,l⟩:=j _ (mO (by rw[dF];exact e));cases l
structure PQ (w wr:Vz) (B g W K:Nat) (zs:Vv) (rs:AF) (hs:Vy) (tv:Ac):Prop where
 mat:qj wr B g zs rs
 wide:∀r,r∈ rs->r.ts.length=W
 tag:∀r,r∈ rs->∀t,t∈ r.ts->t.2.2=K
 told:Grow wr w.heap.size 3 1 zC tv hs.length (lU hs)
 base:Below B w wr
 low:B<=w.heap.size
section
variable {w wr:Vz} {B g W K:Nat} {zs:Vv} {rs:AF} {hs:Vy} {tv:Ac}
def PQ.below{w':Vz}(h:PQ w wr B g W K zs rs hs tv)(hb:Bl wr w'):PQ w w' B g W K zs rs hs tv:=
 ⟨h.mat.below hb,h.wide,h.tag,h.told.below hb,h.base.trans (hb.mono (aE h.low h.base.size)),h.low⟩
def PQ.uG{w':Vz}{c:Nat}{t:Vr}{C:Vw}(h:PQ w wr B g W K zs rs hs tv)(b:cE c wr w')(a:SB wr c t C)(d:3≠t):Grow w' w.heap.size 3 1 zC tv hs.length (lU hs):=
 h.told.keep fun k hk=>b.block k (h.told.lt hk).2 (by
  obtain⟨D,d1,_⟩:=h.told.sb hk
  exact d1.unlike a d)
def PQ.at(h:PQ w wr B g W K zs rs hs tv){i:Nat}(d:i<rs.length):∃r:PR,rs[i]?=some r/\wr.cell? ⟨g,i,none⟩=some (.slice (some ⟨r.b,0,none⟩) W r.cap)/\W<=r.cap/\r.b<wr.heap.size:=by
 obtain⟨r,c⟩:∃r,rs[i]?=some r:=⟨_,gE d⟩;have a:=mO c;refine⟨r,c,?_,?_,(h.mat.row r a).1.lt⟩
 . rw[h.mat.Jm c,PR.val,h.wide r a]
 . rw[<-h.wide r a]
   exact(h.mat.row r a).2.2.2
def PQ.num(h:PQ w wr B g W K zs rs hs tv){i j:Nat}{r:PR}(c:rs[i]?=some r)(l:j<W):∃b:Nat,wr.cell? ⟨r.b,j,none⟩=some (.pointer (some ⟨b,0,none⟩))/\cQ wr b (r.q j)/\Fits (r.q j) K/\0<K:=by have d:=mO c;obtain⟨t,a⟩:∃t,r.ts[j]?=some t:=⟨_,gE (by rw[h.wide r d];exact l)⟩;obtain⟨m,f,k⟩:=h.mat.val c a;have e:=h.tag r d t (mO a);rw[e]at f k;refine⟨t.1,h.mat.num c a,?_⟩;rw[show r.q j=t.2.1 from Dv a];exact⟨m,f,k⟩
def PQ.yD(h:PQ w wr B g W K zs rs hs tv){k b:Nat}{s t:PR}(hb:rs[b]?=some s)(hk:rs[k]?=some t):PQ w ((wr.setCell ⟨g,k,none⟩ (.slice (some ⟨s.b,0,none⟩) W s.cap)).setCell ⟨g,b,none⟩ (.slice (some ⟨t.b,0,none⟩) W t.cap)) B g W K zs ((rs.set k s).set b t) hs tv:=by
 have e:Value.slice (some ⟨s.b,0,none⟩) W s.cap=s.val:=by rw[PR.val,h.wide s (mO hb)]
 have f:Value.slice (some ⟨t.b,0,none⟩) W t.cap=t.val:=by rw[PR.val,h.wide t (mO hk)]
 rw[e,f];obtain⟨i,d⟩:=h.mat.yD hb hk;have c:∀r,r∈ (rs.set k s).set b t->r∈ rs:=fun r a=>by
  rcases dN a with a|rfl
  . rcases dN a with a|rfl
    . exact a
    . exact mO hb
  . exact mO hk
 exact⟨i,fun r a=>h.wide r (c r a),fun r a=>h.tag r (c r a),h.uG d h.mat.blk NC,h.base.trans (d.below h.mat.low (aE h.low h.base.size)),h.low⟩
def PQ.put(h:PQ w wr B g W K zs rs hs tv){i j nb:Nat}{r:PR}{q:Rat}(e:rs[i]?=some r)(k:j<W)(l:cQ wr nb q)(m:Fits q K)(n:0<K):PQ w (wr.setCell ⟨r.b,j,none⟩ (.pointer (some ⟨nb,0,none⟩))) B g W K zs (rs.set i (r.put j (nb,q,K))) hs tv:=by
 have c:=mO e;have o:=(gZ e).1;obtain⟨p,f⟩:=h.mat.put e (by rw[h.wide r c];exact k) l m n;refine⟨p,fun x a=>?_,fun x a t d=>?_,h.uG f (h.mat.row r c).1 NB,h.base.trans (f.below (h.mat.row r c).2.1 (aE h.low h.base.size)),h.low⟩
 .
  rcases dN a with a|rfl
  . exact h.wide x a
  . simpa [PR.put] using h.wide r c
 .
  rcases dN a with a|rfl
  . exact h.tag x a t d
  . rcases dN d with d|rfl
    . exact h.tag r c t d
    . rfl
def PQ.xJ(h:PQ w wr B g W K zs rs hs tv){i j nb b:Nat}{r:PR}{q:Rat}(d:rs[i]?=some r)(e:cQ wr b q):cQ (wr.setCell ⟨r.b,j,none⟩ (.pointer (some ⟨nb,0,none⟩))) b q:=by
 have c:=h.mat.row r (mO d);exact e.fp (FQ ((cX r.b wr).setCell _ _) c.1 (fun u a=>by
  simp only[PR.cells,ik,bD]at a;rcases a with a|a
  . exact Du r.ts u a
  . exact c.2.2.1 u a))
def PQ.app(h:PQ w wr B g W K zs rs hs tv){k nb c:Nat}(o:wr.cell? ⟨nb,0,none⟩=some (.int .i64 (k:Nat)))(F:hs.length<=1000)(ty:Vr):
 ∃f w',sQ prog 133 ty tv (.slice (some ⟨nb,0,none⟩) 1 c) wr=.ok f w'/\PQ w w' B g W K zs rs (hs++ [k]) f:=by
 obtain⟨G,z,p,q,hz2⟩:=me MG;obtain⟨f,w',i,s,a,A⟩:=h.told.app (P:=prog) (ty:=ty) underlying133 z p q hz2 rfl dD MH ⟨nb,0,none⟩ 1 c [.int .i64 (k:Nat)] rfl (fun j v u=>by
  match j,u with
  |0,u=>
   obtain rfl:Value.int .i64 (k:Nat)=v:=sU u;rw[xA]
   exact o) (fun v x=>by obtain rfl:v=Value.int .i64 (k:Nat):=sU x
                         rfl) (fun v x=>by obtain rfl:v=Value.int .i64 (k:Nat):=sU x
                                           exact⟨_,rfl⟩) oO dD h.base.size
 have d:∀b,b<wr.heap.size->tv.ownBlock≠some b->w'.heap[b]?=wr.heap[b]?:=fun b hb y=>a.block b hb (fun e=>y e.symm)
 have l:∀{b:Nat} {t:Vr} {C:Vw},SB wr b t C->3≠t->SB w' b t C:=fun {b t C} hb n=>by
  have E:=d b hb.lt (fun o=>by
   obtain⟨D,d1,_⟩:=h.told.sb o
   exact d1.unlike hb n rfl)
  unfold SB at hb ⊢;rw[E];exact hb
 have m:Below B wr w':=⟨a.os,a.tape,a.output,a.size,fun b hb=>d b (aF hb (aE h.low h.base.size)) (fun e=>by have:=(h.told.lt e).1;have:=h.low;omega)⟩;refine⟨f,w',i,⟨⟨l h.mat.blk NC,h.mat.room,h.mat.low,fun r i=>⟨l (h.mat.row r i).1 NB,(h.mat.row r i).2⟩,fun r i t n=>⟨?_,(h.mat.vs r i t n).2⟩,h.mat.apart⟩,h.wide,h.tag,?_,h.base.trans m,h.low⟩⟩
 . exact(h.mat.vs r i t n).1.D4 h.told a
 . rw[aS,lU,dH]
   exact s
def PQ.glob(h:PQ w wr B g W K zs rs hs tv)(a:∃m,w.cell? ⟨4,0,none⟩=some (.int .i64 m))(hG:4<B):eT wr wr []:=by obtain⟨m,b⟩:=a;exact lM ⟨m,ce h.base hG b⟩
end
structure Part (rs0 rs:AF) (i j:Nat) (v u:cW):Prop where
 len:rs.length=rs0.length
 other:∀m,m≠i->rs[m]?=rs0[m]?
 row:∃r,rs[i]?=some r/\(∀d,d<j->r.q d=u d)/\∀d,j<=d->r.q d=v d
def Part.start{rs:AF}{r:PR}(u:cW)(h:rs[i]?=some r):Part rs rs i 0 r.q u:=⟨rfl,fun _ _=>rfl,r,h,fun d a=>oO,fun _ _=>rfl⟩
def PR.C8{r:PR}{nb:Nat}{q:Rat}(a:j<r.ts.length)(d:Nat):(r.put j (nb,q,K)).q d=if d=j then q else r.q d:=by
 unfold PR.q PR.put oH;by_cases e:d=j
 . subst e
   simp[a]
 . simp only[bN (gH e),aH e]
def Part.step{a rs:AF}{nb:Nat}{v u:cW}{r:PR}(h:Part a rs i j v u)(f:rs[i]?=some r)(k:j<r.ts.length):Part a (rs.set i (r.put j (nb,u j,K))) i (j+1) v u:=by
 have b:=(gZ f).1;obtain⟨q,c,n,o⟩:=h.row;obtain rfl:=aD (f.symm.trans c);refine⟨by simpa using h.len,fun m l=>by rw[bN (gH l)];exact h.other m l,_,bP b,fun d p=>?_,fun d p=>?_⟩
 .
  rw[PR.C8 k];by_cases e:d=j
  . rw[aN e,e]
  . rw[aH e]
    exact n d oO
 . rw[PR.C8 k,aH oO]
   exact o d oO
def Part.done{a rs:AF}{W:Nat}{v u:cW}(h:Part a rs i W v u)(b:∀d,W<=d->v d=u d):∃r,rs[i]?=some r/\r.q=u:=by
 obtain⟨r,c,e,f⟩:=h.row;refine⟨r,c,funext fun d=>?_⟩;rcases bB d W with k|k
 . exact e d k
 . rw[f d k,b d k]
end Go.Proofs.YtfgclhpgdanmfaaGreatDoor
