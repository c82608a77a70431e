import Derived.Test.YtfgclhpgdanmfaaGreatDoorS14TextC
namespace Go.Proofs.YtfgclhpgdanmfaaGreatDoor
set_option linter.defProp false
open Go.RowKit
open Go.Proofs.Tryz
set_option linter.unusedSimpArgs false
set_option linter.unusedVariables false
set_option maxHeartbeats 8000000
set_option maxRecDepth 1000000
variable{C:Vw}{l:Vy}{w w' w0:Vz}{v x x1 x2 x3 y y1 y2 y3 z:Ac}{K c cap g i j k m n:Nat}{a:Vx}{t:Vr}{vs:Vv}{p:Rat}
def pR(C:Vw):Prop:=∀(i:Nat) u,C[i]?=some u->∃a n c,u=Value.slice a n c
def oM(w:Vz)(v:Ac):Prop:=∀g,v.ownBlock=some g->∃C t f,w.heap[g]?=some (.cells C t f)/\pR C
def pR.append{D:Vw}(h:pR C)(k:pR D):pR (C++D):=fun i u a=>by
 rw[Ml]at a
 split at a
 . exact h _ _ a
 . exact k _ _ a
def pR.zeros(n:Nat):pR (Builtin.zeroCells (Value.slice none 0 0).cells n):=fun i u b=>by have a:=uA b;simp[Builtin.zeroCells,Value.cells]at a;obtain⟨j,c,e⟩:=a;rw[QA]at e;exact⟨none,0,0,e.symm⟩
def pR.list{l:Vv}(h:∀u,u∈ l->∃a n c,u=Value.slice a n c):pR l.toArray:=fun i u b=>h u (by rw[aK]at b;exact mO b)
def pR.mem(h:pR C){u:Ac}(d:u∈ C.toList):∃a n c,u=Value.slice a n c:=by obtain⟨i,b⟩:=dS.1 d;exact h i u (by rw[dF]at b;exact b)
def oM.below(h:oM w v)(hb:∀g,v.ownBlock=some g->w'.heap[g]?=w.heap[g]?):oM w' v:=fun g a=>by obtain⟨C,t,f,b,c⟩:=h g a;exact⟨C,t,f,by rw[hb g a];exact b,c⟩
def oM.new(w:Vz)(C:Vw)(t:Vr)(n cap:Nat)(h:pR C):oM (w.drew.alloc (.cells C t)) (.slice (some ⟨w.heap.size,0,none⟩) n cap):=fun g a=>by
 have e:w.heap.size=g:=by simpa [Value.ownBlock] using a
 subst e;exact⟨C,t,_,jz w.drew _,h⟩
def oM.row{b a:Vw}{f:Nat × Nat}(d:w.heap[g]?=some (.cells b t f))(h:pR a):oM (w.setRow g a) (.slice (some ⟨g,0,none⟩) n cap):=fun i c=>by
 have e:g=i:=by simpa [Value.ownBlock] using c
 subst e;exact⟨a,t,f,wP w g b _ t _ d,h⟩
def Tryz.Cs:(prog.info? 97).map (fun i=>(i.zero,i.size,i.bytes))=some (some (.slice none 0 0),1,24):=kK
def RG{base:Nat}{G:Ac}{z:Nat}{xs b:Vv}{a:Addr}{ty:Vr}{i:AT}(A:prog.info? 97=some i)(H:i.zero=some (.slice none 0 0))(h:i.size=1)(t:i.bytes=24)(f:w.ownsRow base 97 1 v n xs)(e:oM w v)(hl:b.length=m)(d:∀j u,b[j]?=some u->w.cell? (a.add j)=some u)(I:∀u∈ b,u.oneCell'=true)(B:∀u,u∈ b->∃a n c,u=Value.slice a n c)(J:0<m)(K:n+m<=1099511627776)(s:(Builtin.append_ #[209,209] ty #[v,.slice (some a) m z]).run prog w=.ok G w'):oM w' G:=by
 have D:xs.length=n:=sU f.1;have k:=f;have l:b.length=m*i.size:=by rw[h,eP];exact hl
 rcases f.2 with ⟨rfl,rfl⟩|⟨g,cap,E,rfl,L,F,M,N,O,o⟩
 . rw[Hr (P:=prog) w 209 ty 97 i (.slice none 0 0) underlying209 A H a m z b l d J oO (rO t)]at s;injection s with x y
   rw[<-x,<-y];exact oM.new _ _ _ _ _ ((pR.list B).append (pR.zeros _))
 .
  obtain⟨C,Q,R,hC,p⟩:=e g rfl;rw[F]at hC;injection hC with hC
  injection hC with hC _ _
  subst hC;by_cases q:n+m<=cap
  .
   rw[Fh (P:=prog) w 209 ty 97 i underlying209 A g n cap E F a m z b l d I q (rO h)]at s;injection s with x y
   rw[<-x,<-y];refine oM.row F (pR.list fun u e=>?_);simp only[bD]at e;rcases e with (e|e)|e
   . exact p.mem (dR e)
   . exact B u e
   . exact p.mem (fR e)
  . have r:=k.cells (g:=g) rfl;rw[Fi (P:=prog) w 209 ty 97 i (.slice none 0 0) underlying209 A H ⟨g,0,none⟩ n cap xs (by rw[h];simpa using D) r a m z b l d oO oO (by rw[t];exact wQ oO oO)]at s;injection s with x y
    rw[<-x,<-y];refine oM.new _ _ _ _ _ (((pR.list fun u e=>?_).append (pR.list B)).append (pR.zeros _));rw[<-o]at e;exact p.mem (dR e)
def pw(i:Nat):Nat:=10 ^ (19*2 ^ i)
def Ix(i:Nat):pw (i+1)=pw i*pw i:=by unfold pw;rw[<-eG];congr 1;rw[fD];omega
def Mz:pw 0=10000000000000000000:=dD
def JN(i:Nat):0<pw i:=gU dD
def uf(w:Vz)(vs:Vv):Prop:=∀i v,vs[i]?=some v->∃a c l,v=.slice a (List.length l) c/\jx w a c l (pw i)
def uf.below(h:uf w vs)(hb:Bl w w'):uf w' vs:=fun i v b=>by obtain⟨a,c,l,e,d⟩:=h i v b;exact⟨a,c,l,e,d.below hb⟩
def uf.xg(h:uf w vs)(e:jx w a c l (pw vs.length)):uf w (vs++ [.slice a l.length c]):=fun i v b=>by
 rw[List.getElem?_append]at b
 split at b
 . exact h i v b
 .
  rename_i f;rw[List.getElem?_singleton]at b
  split at b
  . have d:i=vs.length:=oO;subst d;injection b with b
    exact⟨a,c,l,b.symm,e⟩
  . cases b
def jx.xP(h:jx w a cap l n)(g:w.grownBy w' v.ownBlock)(m:oM w v):jx w' a cap l n:=by
 refine⟨⟨h.row.fit,?_,fun i o=>?_⟩,h.num,h.short⟩
 .
  rcases h.row.shape with c|⟨d,b,c,k⟩
  . exact .inl c
  . exact .inr ⟨d,b,c,by have:=g.size;omega⟩
 . obtain⟨d,b,c,k,j⟩:=h.row.cell i o;refine⟨d,b,c,by have:=g.size;omega,(bJ (w:=w) (g.block d k ?_)).trans j⟩;intro p;obtain⟨C,t,f,hC,q⟩:=m d p.symm;rw[Lib.cell_of_heap hC]at j;obtain⟨_,_,_,e⟩:=q _ _ j;cases e
def uf.grown(h:uf w vs)(b:w.grownBy w' v.ownBlock)(d:oM w v):uf w' vs:=fun i u f=>by obtain⟨a,c,l,e,g⟩:=h i u f;exact⟨a,c,l,e,g.xP b d⟩
def RE(k:Nat):2 ^ (63*k)<=10 ^ (19*k):=by rw[uY,uY];exact iJ dD k
def My(h:jx w a c l (pw i)):63*2 ^ i<64*l.length:=by
 have b:=qi (B:=18446744073709551616) dD h.num.small;rw[h.num.eq]at b;have d:2 ^ (63*2 ^ i)<=pw i:=RE _;have e:(18446744073709551616:Nat) ^ l.length=2 ^ (64*l.length):=by rw[uY]
 rw[e]at b;exact(sj (by decide:1<2)).1 (bQ d b)
def Q8(n:Nat):n+1<=2 ^ n:=Nat.lt_two_pow_self
def Q0{e:Vx}{c2 x:Nat}{m:Vy}(h:jx w a c l (pw i))(d:jx w e c2 m x)(hl:m.length+1<2*l.length):x<pw (i+1):=by have f:=qi (B:=18446744073709551616) dD d.num.small;rw[d.num.eq]at f;have b:=h.num.trim.pK (B:=18446744073709551616) oO;rw[h.num.eq]at b;have g:=fO b b;rw[<-eG,<-Ix]at g;have j:(18446744073709551616:Nat) ^ m.length<=18446744073709551616 ^ (l.length - 1+(l.length - 1)):=cP dD oO;omega
def QZ(h:63*2 ^ n<64*k)(hk:k<=549755813890):19*2 ^ (n+1)<=140737488355000:=by rw[fD];omega
def EY(w:Vz)(x:Nat)(e:As)(w':Vz):Prop:=(∃g n cap,e=.returned (.slice (some ⟨g,0,none⟩) (n+1) cap)/\n+1<=cap/\(∃vs,List.length vs=n+1/\(∀i v,vs[i]?=some v->w'.cell? ⟨g,i,none⟩=some v)/\uf w' vs)/\g<w'.heap.size/\x<pw (n+1)/\n<=1099511627770/\19*2 ^ (n+1)<=140737488355000)/\Below w.heap.size w w'
def QY(a:Vx)(cap x:Nat)(C:Vy)(w:Vz)(h:jx w a cap C x)(hl:C.length<=274877906944):
 Calls prog 169 #[.slice a C.length cap] w (EY w x):=by
 obtain⟨i0,hi,L,M,hz2⟩:=me Tryz.Cs;obtain⟨HX,HI,N,O,Q⟩:=Id h hi L M hz2;clear h hi L M hz2;go_enter func169,ntmps169;go_wp2_with fail;go_loopw [3,4] (fun lv pv wr=>∃(n:Nat)(vs:Vv)(R:Vx) (c1:Nat) (c:Vy),vs.length=n+1/\lv=.slice R c.length c1/\vs[n]?=some lv/\wr.ownsRow w.heap.size 97 1 pv (n+1) vs/\oM wr pv/\uf wr vs/\jx wr R c1 c (pw n)/\c.length<=2*C.length+1/\n<=2*C.length/\Below w.heap.size w wr) (fun _ pv _=>2*C.length+2 - qD pv)
 case atStart=>
  have ae:jf .u64 172 (w.alloc (.cells (dA .u64 [10000000000000000000]) 172)) w.heap.size [10000000000000000000]:=mn _ _ _ _;have af:jx (w.alloc (.cells (dA .u64 [10000000000000000000]) 172)) (some ⟨w.heap.size,0,none⟩) 1 [10000000000000000000] (pw 0):=⟨ae.row 1 sS 1 oO,⟨fun d hd=>by simp at hd;omega,.inr sS,by rw[Mz];simp[val]⟩,sS⟩;have ag:Below (w.alloc (.cells (dA .u64 [10000000000000000000]) 172)).heap.size (w.alloc (.cells (dA .u64 [10000000000000000000]) 172)) ((w.alloc (.cells (dA .u64 [10000000000000000000]) 172)).alloc (.cells #[.slice (some ⟨w.heap.size,0,none⟩) 1 1] 97)):=bR.alloc lZ _;have S:=af.below ag;refine⟨0,[.slice (some ⟨w.heap.size,0,none⟩) 1 1],some ⟨w.heap.size,0,none⟩,1,[10000000000000000000],rfl,rfl,rfl,?_,?_,?_,S,sS,oO,?_⟩
  . exact⟨rfl,.inr ⟨w.heap.size+1,1,#[.slice (some ⟨w.heap.size,0,none⟩) 1 1],rfl,oO,by have:=jz (w.alloc (.cells (dA .u64 [10000000000000000000]) 172)) (.cells #[.slice (some ⟨w.heap.size,0,none⟩) 1 1] 97);rw[bH]at this;exact this,oO,by unfold maxLen;omega,rfl,rfl⟩⟩
  .
   intro g T;have e:w.heap.size+1=g:=by simpa [Value.ownBlock] using T
   subst e;refine⟨#[.slice (some ⟨w.heap.size,0,none⟩) 1 1],97,(0,0),by have:=jz (w.alloc (.cells (dA .u64 [10000000000000000000]) 172)) (.cells #[.slice (some ⟨w.heap.size,0,none⟩) 1 1] 97);rw[bH]at this;exact this,?_⟩;intro i u q
   match i with
   |0=>simp at q;exact⟨_,_,_,q.symm⟩
   |i+1=>simp at q
  .
   intro i v U
   match i with
   |0=>simp at U;exact⟨_,_,[10000000000000000000],U.symm,S⟩
   |i+1=>simp at U
  . exact(bR.alloc lZ _).alloc wO _
 case round=>
  obtain⟨n,vs,R,c1,c,V,rfl,I,r,W,X,q,au,av,hb⟩:=hrel;have Y:=LV r;have ah:=My q;have ai:=Q8 n;obtain⟨s,f,aj,Z,K,HB⟩:=Ie V r W X q hb;have ar:=hb.size;have aw:1<=c.length:=oO;have D:63*(n+1)<64*c.length:=oO;clear V I r W X q hb ah ai;by_cases hc:2*c.length<=C.length+1
  .
   have q1:(2*(c.length:Int) - 1<=(C.length:Int)):=oO;have HM:=Hi (Ou R R c1 c1 c c (pw n) (pw n) wr K.o K.o oO);go_wp2_with fail;go_fit HM.o;rintro e w2 ⟨⟨E,c2,A,rfl,F⟩,J⟩;rw[<-Ix]at F;have ax:A.length<=2*c.length:=F.num.fG dD (by
    rw[Ix,show 2*c.length=c.length+c.length by omega,eG];have h1:=qi (B:=18446744073709551616) dD K.o.num.small;rw[K.o.num.eq]at h1
    exact pN h1 h1)
   have ak:=J.size;obtain⟨al,G⟩:=Ia F J;clear HM F J;have t:Bl w2 (w2.alloc (.cells #[.slice E A.length c2] 97)):=bR.alloc lZ _;have l:=Dz (Dz f.o G.o) t;have p:=(aj.o.below fun g T=>G.o.block g (f.o.lt g T).2).below fun g T=>t.block g (oB ((f.o.lt g T).2))
   have D:∀j u,[Value.slice E A.length c2][j]?=some u->(w2.alloc (.cells #[.slice E A.length c2] 97)).cell? ((⟨w2.heap.size,0,none⟩:Addr).add j)=some u:=World.news_of_block (jz w2 _);have y:∀u∈ [Value.slice E A.length c2],u.oneCell'=true:=fun u q=>by rw[bE.1 q];rfl
   obtain⟨v',w3,hr,z,b,_,am⟩:=run_append_own_at (P:=prog) (w2.alloc (.cells #[.slice E A.length c2] 97)) w.heap.size 209 209 97 i0 (.slice none 0 0) 1 24 underlying209 HI.o N.o O.o Q.o rfl dD u4 (n+1) vs l ⟨w2.heap.size,0,none⟩ 1 1 [.slice E A.length c2] rfl D y mZ oO wO;obtain⟨an,aa,ao,ab,ap,HR⟩:=Ie (RG (m:=1) HI.o N.o O.o Q.o l p rfl D y (fun u q=>⟨_,_,_,bE.1 q⟩) dD oO hr) ((al.o.below t).xP b p) (((Z.o.below G.o).below t).grown b p) z (((HB.o.trans (G.o.mono oO)).alloc oO (.cells #[.slice E A.length c2] 97)).grown b wO (fun k hk=>(f.o.lt k hk).1)) hr;clear t l p D y hr z b am;go_wp2_with (at_builtin;refine Gy _ rfl _ _ 209 209 rfl u4 (.slice (some ⟨w2.heap.size,0,none⟩) 1 1) _ _ rfl rfl HR.o ?_);clear HR;go_wp2;go_roundw
   case rel=> refine⟨n+1,vs++ [.slice E A.length c2],E,c2,A,by rw[aS,s.o];rfl,rfl,?_,ab.o,an.o,ao.o.xg (by rw[s.o];exact aa.o),aa.o,oO,oO,ap.o⟩;rw[aX (rO s.o),s.o,fA];rfl
   case measure=> rw[Y];have:=LV ab.o;simp only[qD]at this ⊢;simp at this ⊢;omega
  .
   have q1:¬(2*(c.length:Int) - 1<=(C.length:Int)):=oO;obtain⟨g,ad,rfl,ay,aq⟩:=f.o.form oO;go_wp2;go_ret;have H:=f.o.cells (g:=g) rfl;refine⟨⟨g,n,ad,rfl,?_,⟨vs,s.o,fun i v U=>?_,Z.o⟩,aq,Q0 K.o (HX.o.below HB.o) oO,oO,QZ (My K.o) oO⟩,HB.o⟩
   . rcases f.o.2 with ⟨h,_⟩|⟨g',cap',az,he,_,_,hf,_⟩
     . cases h
     . injection he with _ _ h3
       omega
   . have:=H i v U;rw[Lib.add_plain,cC]at this;exact this
def Pw(w:Vz)(g n:Nat):Prop:=∀i,i<n->∃a c l,w.cell? ⟨g,i,none⟩=some (.slice a (List.length l) c)/\jx w a c l (pw i)
def Pw.below(h:Pw w g n)(hb:Bl w w'):Pw w' g n:=fun i d=>by obtain⟨a,c,l,b,e⟩:=h i d;exact⟨a,c,l,ce hb (bI _ _ b) b,e.below hb⟩
def Pw.uE{B b:Nat}{l:Vu}(h:Pw w g n)(e:uu B b l w)(k:Wr b w w'):Pw w' g n:=fun i f=>by obtain⟨a,c,j,m,o⟩:=h i f;obtain⟨r,s,t,d,_⟩:=h 0 oO;obtain⟨p,q⟩:=e.vF d;exact⟨a,c,j,(bJ (w:=w) (a:=⟨g,i,none⟩) (k.block g (bI _ _ d) p q)).trans m,o.uE e k⟩
def Pw.less(h:Pw w g n)(a:m<=n):Pw w g m:=fun i b=>h i oO
theorem RP{x:Nat}(h:jx w a c l x)(b:x<10000000000000000000):l.getD 0 0=x:=by
 have hl:=h.num.fG dD (by rw[Nat.pow_one];omega);rw[<-h.num.eq]
 match l,hl with
 | [],_=>rfl
 | [d],_=>simp[val]
def RO(w0:Vz)(b g:Nat)(hT:wU w0)(n:Nat):∀(cap:Nat)(i:Bool)(l:Vu) (a:Vx) (c x:Nat) (N:Vy) (w:Vz),Below w0.heap.size w0 w->uu w0.heap.size b l w->jx w a c N x->Pw w g n->n<=cap->x<pw n->N.length<=274877906944->n<=1099511627776->l.length+19*2 ^ n<=140737488355328->
 Calls prog 168 #[.pointer (some ⟨b,0,none⟩),.slice a N.length c,.slice (some ⟨g,0,none⟩) n cap,.bool i] w (Hk w0.heap.size b l i (19*2 ^ n) x w):=by
 induction n with
 |zero=> intro cap i l a c x N w hb Y L Z ah X ai hn hl;rw[Mz]at X;have R:=Hi (EW a c N 0 w L.row L.short dD);rw[RP L X]at R;have aa:=Hi (Q9 w0 w b l x i hT hb Y X (sU hl));clear hb Y L Z;go_enter func168,ntmps168;go_wp2_with fail;go_fit R.o;rintro e w1 ⟨rfl,hw⟩;subst hw;clear R;go_wp2_with fail;go_fit aa.o;rintro e w2 ⟨m,z,rfl,j,f,d⟩;obtain⟨HO,aj,A,C⟩:=Ic z j f d;clear aa z j f d;go_wp2;go_end0;exact⟨m,by simpa using HO.o,rfl,aj.o,A.o,C.o⟩
 |succ n ih=>
  intro cap i l a c x N w hb Y L Z ah X ai hn hl;obtain⟨ap,cp,lp,ak,ab⟩:=Z n oO;obtain⟨ad,HB,HD,HP,D⟩:=Id (Oy a ap c cp N lp x (pw n) w L ab (JN n) oO) hb Y Z ih;have ae:x / pw n<pw n:=by rw[fL (JN n)];rw[Ix]at X;exact X
  have S:x % pw n<pw n:=eU _ (JN n);have P:∀(w':Vz)(a':Vx)(c' y:Nat) (l':Vy),jx w' a' c' l' y->y<=x->l'.length<=N.length:=fun w' a' c' y l' h' hy=>h'.num.fG dD (bQ hy (by have:=qi (B:=18446744073709551616) dD L.num.small;rw[L.num.eq]at this;exact this))
  obtain⟨Q,HX⟩:=Ia P (iS x (pw n));have h2:19*2 ^ (n+1)=2*(19*2 ^ n):=by rw[fD];omega
  have af:=Hi (show pw n=10 ^ (19*2 ^ n) from rfl);have n1:((n+1:Nat):Int) - 1=(n:Int):=oO;have n2:((n:Int)+1) - 1=(n:Int):=oO;have n0:(((n+1:Nat):Int) == 0)=false:=by rw[aJ];omega
  have M:=hb.size;clear hb Y L Z ab ih P;go_enter func168,ntmps168;go_wp2_with fail;go_fit ad.o;rintro e w1 ⟨⟨aq,cq,lq,ar,cr,lr,rfl,hq,hr⟩,t⟩;have hz:=hq.num.eV dD;obtain⟨ag,T,HQ,HR,U,u,E,V,F⟩:=Ih (Q.o _ _ _ _ _ hq (mR _ _)) (Q.o _ _ _ _ _ hr (Nat.mod_le _ _)) hq hr t (HD.o.below t) (HP.o.below t) (Wr.below HD.o.lt t) (HB.o.trans (t.mono M));have am:=t.size;clear ad hq hr t;cases i with
  |true=> have G:=Hi (D.o cap true l aq cq (x / pw n) lq w1 F.o u.o HQ.o (E.o.less oO) oO ae (oB ag.o) oO oO);clear hz;go_wp2_with fail;go_fit G.o;rintro e w2 ⟨m1,v,rfl,j,f,d⟩;obtain⟨W,k,A,C⟩:=Ic v (D.o cap true (l++m1) ar cr (x % pw n) lr w2 (F.o.trans f) j (HR.o.uE u.o d) ((E.o.uE u.o d).less oO) oO S (oB T.o) oO (by rw[aS];have:=v.most;omega)) f d;clear G v j f d;go_wp2_with fail;go_fit k.o;rintro e w3 ⟨m2,p,rfl,q,r,s⟩;obtain⟨H,I,J,K⟩:=Ic p q r s;clear k p q r s;go_wp2;go_end0;have z:=MA W.o H.o (.inl rfl);rw[<-af.o,bV (x / pw n),HX.o,<-h2]at z;exact⟨m1++m2,z,rfl,by rw[<-lI];exact I.o,(U.o.mono M).trans (A.o.trans J.o),V.o.trans (C.o.trans K.o)⟩
  |false=>
   by_cases an:0<lq.length
   .
    have q1:((0:Int)<(lq.length:Int)):=oO;have HF:O (0<x / pw n):=Hi (by
     rcases eE (x / pw n) with h|h
     . have:=hz.1 h;omega
     . exact h)
    have G:=Hi (D.o cap false l aq cq (x / pw n) lq w1 F.o u.o HQ.o (E.o.less oO) oO ae (oB ag.o) oO oO);clear hz;go_wp2_with fail;go_fit G.o;rintro e w2 ⟨m1,v,rfl,j,f,d⟩;obtain⟨W,k,A,C⟩:=Ic v (D.o cap true (l++m1) ar cr (x % pw n) lr w2 (F.o.trans f) j (HR.o.uE u.o d) ((E.o.uE u.o d).less oO) oO S (oB T.o) oO (by rw[aS];have:=v.most;omega)) f d;clear G v j f d;go_wp2_with fail;go_fit k.o;rintro e w3 ⟨m2,p,rfl,q,r,s⟩;obtain⟨H,I,J,K⟩:=Ic p q r s;clear k p q r s;go_wp2;go_end0;have z:=MA W.o H.o (.inr HF.o);rw[<-af.o,bV (x / pw n),HX.o,<-h2]at z;exact⟨m1++m2,z,rfl,by rw[<-lI];exact I.o,(U.o.mono M).trans (A.o.trans J.o),V.o.trans (C.o.trans K.o)⟩
   . have q1:¬((0:Int)<(lq.length:Int)):=oO;have al:x % pw n=x:=by have h1:=HX.o;rw[hz.2 oO,fH,cC]at h1;exact h1
     have k:=Hi (D.o cap false l ar cr (x % pw n) lr w1 F.o u.o HR.o (E.o.less oO) oO S (oB T.o) oO oO);clear hz;go_wp2_with fail;go_fit k.o;rintro e w3 ⟨m2,p,rfl,q,r,s⟩;obtain⟨H,I,J,K⟩:=Ic p q r s;clear k p q r s;go_wp2;go_end0;have z:=H.o;rw[al]at z;exact⟨m2,z.grow oO,rfl,I.o,(U.o.mono M).trans J.o,V.o.trans K.o⟩
def x7(x:Nat)(w:Vz)(e:As)(w':Vz):Prop:=(∃s:Vs,e=.returned (.string s)/\pY s.data.toList x/\s.size<=140737488355328)/\Below w.heap.size w w'
def RN(a:Vx)(c x:Nat)(l:Vy)(w:Vz)(S:wU w)(h:jx w a c l x)(hl:l.length<=274877906944):
 Calls prog 111 #[.slice a l.length c] w (x7 x w):=by
 obtain⟨F,j⟩:=nm (w.alloc (.cells #[.pointer none,.slice none 0 0] 207));have d:Bl w F:=by rw[<-j];exact(ac _ _).alloc lZ _
 have k:F.heap[w.heap.size]?=some (.cells #[.pointer none,.slice none 0 0] 207 (0,0)):=by rw[<-j];exact jz w _
 have p:uu w.heap.size w.heap.size [] F:=⟨.inl ⟨aV _,.slice none 0 0,k,pH _ _ _ _,by simp[Value.ownBlock]⟩,fun v q=>by
  rw[Lib.cell_of_heap k]at q;have:v=.slice none 0 0:=sU q.symm;subst this;intro g V
  simp[Value.ownBlock]at V⟩
 obtain⟨r,W,X,s,G,Y⟩:=Ie (QY a c x l F (h.below d) hl) (h.below d) p d j S;have t:=d.size;clear S h d k p j;go_enter func111,ntmps111;go_wp2_with fail;rw[G.o];go_fit r.o;rintro e w1 ⟨⟨g,n,cap,rfl,H,⟨vs,I,u,f⟩,J,T,Z,K⟩,b⟩;have y:Pw w1 g (n+1):=fun i hi=>by obtain⟨v,q⟩:∃v,vs[i]?=some v:=⟨vs[i]' oO,gE oO⟩;obtain⟨a',c',l',e',L⟩:=f i v q;exact⟨a',c',l',by rw[u i v q,e'],L⟩
 obtain⟨z,M⟩:=Ia (RO w w.heap.size g Y.o (n+1) cap false [] a c x l w1 (s.o.trans (b.mono t)) (X.o.below b) (W.o.below b) y H T hl oO (by rw[iU];omega)) (s.o.trans (b.mono t));have U:=b.size;clear r y I u f J T b;go_wp2_with fail;go_fit z.o;rintro e w2 ⟨m,N,rfl,A,B,C⟩;obtain⟨D,O,P,Q⟩:=Ic (Rd w.heap.size w.heap.size m w2 (by have:=A.bd;rwa [cH]at this) (oB C.size)) N.JA N.most (M.o.trans B);clear z N A B C;go_wp2_with fail;go_fit D.o;rintro e w3 ⟨rfl,E⟩;have R:=Hi (Q.o.trans E);clear D E;go_wp2;go_ret;refine⟨⟨_,rfl,O.o,?_⟩,R.o⟩;have h1:=P.o;rw[<-ut]
 show m.length<=_
 omega
def Hf(q:Rat)(w:Vz)(e:As)(w':Vz):Prop:=(∃s:Vs,e=.returned (.string s)/\iK s.data.toList q)/\Below w.heap.size w w'
def GP(s t:Vs):(s++t).data.toList=s.data.toList++t.data.toList:=by simp[Mk]
def Xr(w:Vz)(d:Nat)(a:Vx)(n c:Nat):(Op.equalIn (d+1) 97 (.slice a n c) (.slice none 0 0)).run prog w=.ok a.isNone w:=by cases a<;>simp[Op.equalIn,nS underlying97]
def Xq(w:Vz)(a:Vx)(n c:Nat):(Op.equal 97 (.slice a n c) (.slice none 0 0)).run prog w=.ok a.isNone w:=Xr w 9999 a n c
def Xp(w:Vz)(a:Vx)(n c:Nat):(binOp .neq 97 (.slice a n c) (.slice none 0 0)).run prog w=.ok (.bool a.isSome) w:=by cases a<;>simp[binOp,Xq]
def Lu{x:Nat}(b:wU w)(h:mz w a n c x)(d:x<2 ^ K)(e:K<=274877906944):Calls prog 111 #[.slice a n c] w (x7 x w):=by obtain⟨l,rfl,h⟩:=h;exact RN a c x l w b h (aE (h.jd d) e)
def Gs(neg:Bool)(a b:Vx)(n c m d K:Nat)(q:Rat)(w:Vz)(H:wU w)(h:jr w neg a n c b m d q)(I:Fits q K)(J:K<=274877906944):
 Calls prog 57 #[.agg #[.bool neg,.slice a n c,.slice b m d]] w (Hf q w):=by
 have X:=Xp;obtain⟨Q,s⟩:=nm (w.alloc (.cells #[.bool neg,.slice a n c,.slice b m d] 99));have g:Bl w Q:=by rw[<-s];exact(ac _ _).alloc lZ _
 have x:SB Q w.heap.size 99 #[.bool neg,.slice a n c,.slice b m d]:=by rw[<-s];exact cK w _ _
 obtain⟨y,z,A,B,R,t,L,M⟩:=Ig (Lu (H.below g) (h.top.below g) I.1 J) (h.low.below g) (H.below g) h.neg I x g s;have N:=g.size;clear H h I g x s;go_enter func57,ntmps57;obtain⟨-,k1,-⟩:=zc t.o;go_wp2_with fail;rw[M.o];go_fit y.o;rintro e w1 ⟨⟨G,rfl,C,T⟩,i⟩;obtain⟨D,j,E,F⟩:=Ic C (L.o.trans (i.mono N)) (z.o.below i) (A.o.below i);obtain⟨Y,-,Z,-⟩:=zc (t.o.below i t.o.lt);have S:=i.size;clear y C i k1 z A;cases neg with
 |true=>
  have k:O (j8 ((⟨#[45]⟩:ByteArray)++G).data.toList q.num):=Hi ⟨G.data.toList,D.o,by rw[aN (lz B.o.symm),GP];rfl⟩;rcases E.o with ⟨rfl,rfl,rfl,f⟩|⟨f,hl⟩
  . go_wp2;go_ret;exact⟨⟨_,rfl,_,k.o,.inl ⟨f,rfl⟩⟩,j.o⟩
  . obtain⟨U,V,rfl⟩:=hl.some oO;have l:=Hi (Lu F.o hl R.o.2 J);clear hl;go_wp2_with fail;go_fit l.o;rintro e w2 ⟨⟨W,rfl,p,P⟩,r⟩;obtain⟨u,v⟩:=Ia p (j.o.trans (r.mono j.o.size));clear l p r;go_wp2;go_ret;exact⟨⟨_,rfl,_,k.o,.inr ⟨oO,_,u.o,by rw[GP,GP];rfl⟩⟩,v.o⟩
 |false=>
  have k:O (j8 G.data.toList q.num):=Hi ⟨G.data.toList,D.o,by rw[aH (of_decide_eq_false B.o.symm)]⟩;rcases E.o with ⟨rfl,rfl,rfl,f⟩|⟨f,hl⟩
  . go_wp2;go_ret;exact⟨⟨_,rfl,_,k.o,.inl ⟨f,rfl⟩⟩,j.o⟩
  . obtain⟨U,V,rfl⟩:=hl.some oO;have l:=Hi (Lu F.o hl R.o.2 J);clear hl;go_wp2_with fail;go_fit l.o;rintro e w2 ⟨⟨W,rfl,p,P⟩,r⟩;obtain⟨u,v⟩:=Ia p (j.o.trans (r.mono j.o.size));clear l p r;go_wp2;go_ret;exact⟨⟨_,rfl,_,k.o,.inr ⟨oO,_,u.o,by rw[GP,GP];rfl⟩⟩,v.o⟩
def I2{q:Rat}(e:wU w)(h:eF w v q)(f:Fits q K)(g:K<=274877906944):Calls prog 57 #[v] w (Hf q w):=by obtain⟨neg,a,n,c,b,m,d,rfl,h⟩:=h;exact Gs neg a b n c m d K q w e h f g
def PX(A B:Vx)(c1 c2:Nat)(l m:Vy)(w:Vz)(d:Row .u64 w A c1 l)(C:Row .u64 w B c2 m)(hl:l.length<=1099511627776)(P:m.length<=1099511627776):
 Calls prog 220 #[.slice A l.length c1,.slice B m.length c2] w fun e w'=>e=.returned (.bool (decide (l=m)))/\Below w.heap.size w w':=by
 obtain⟨H,I⟩:=Ia d C;clear d C;by_cases a:l.length=m.length
 .
  have J:((l.length:Int) != (m.length:Int))=false:=by simp[a]
  have K:((l.length:Int) == (m.length:Int))=true:=by simp[a]
  go_enter func220,ntmps220;go_wp2;go_loopw [13] (fun n wr=>∃k:Nat,k<=l.length/\n=.int .i64 k/\l.take k=m.take k/\Below w.heap.size w wr) (fun n _=>l.length - (intOf n).toNat)
  case atStart=>exact⟨0,oO,rfl,sS,ac _ _⟩
  case round=>
   obtain⟨k,hk,rfl,D,hb⟩:=hrel;obtain⟨E,f⟩:=Ia D hb;clear D hb;by_cases b:k<l.length
   .
    obtain⟨b1,Q,rfl,L,p⟩:=(H.o.below f.o).cell k b;obtain⟨b2,R,rfl,M,q⟩:=(I.o.below f.o).cell k oO;obtain⟨x,i⟩:=nm (l.getD k 0);obtain⟨y,j⟩:=nm (m.getD k 0);rw[i]at p;rw[j]at q;obtain⟨r,s⟩:=Ia i j;have F:l.take (k+1)=l.take k++ [x]:=by rw[yJ b,<-i,aC,gE b];rfl
    have G:m.take (k+1)=m.take k++ [y]:=by rw[yJ oO,<-j,aC,gE oO];rfl
    obtain⟨t,u⟩:=Ia F G;clear i j F G;by_cases g:x=y
    . subst g;have N:((x:Int) == (x:Int))=true:=sS;go_wp2_with fail;go_region
      all_goals
       go_wp2;go_roundw
       case rel=>exact⟨k+1,oO,by go_num,by rw[t.o,u.o,E.o],f.o.drew⟩
       case measure=>exact mI
    .
     have N:((x:Int) == (y:Int))=false:=by rw[aJ];omega
     have S:((x:Int) != (y:Int))=true:=by rw[jk];omega
     have c:O (decide (l=m)=false):=Hi (bS (fun h=>by
      have d:=r.o;rw[h,s.o]at d
      exact g d.symm))
     go_wp2_with fail;go_region
     all_goals
      go_wp2;go_ret;exact⟨by rw[c.o];rfl,f.o.drew⟩
   . have v:k=l.length:=oO;subst v;have z:=Hi (dC (by have:=E.o;rwa [dB,bL oO]at this));go_wp2;go_ret;exact⟨by rw[z.o];rfl,f.o⟩
 .
  have J:((l.length:Int) != (m.length:Int))=true:=by rw[jk];omega
  have K:((l.length:Int) == (m.length:Int))=false:=by rw[aJ];omega
  have c:O (decide (l=m)=false):=Hi (bS (fun h=>a (by rw[h])));go_enter func220,ntmps220;go_wp2;go_ret;exact⟨by rw[c.o];rfl,ac _ _⟩
def zA.row{b:Vx}{d:Nat}(h:zA w b m d k):∃L:Vy,L.length=m/\Row .u64 w b d L/\L.length<=1099511627776/\((L= []/\k=1)∨(1<k/\Num 18446744073709551616 L k)):=by
 rcases h with ⟨rfl,rfl,rfl,rfl⟩|⟨h,l,hl,a⟩
 . exact⟨[],rfl,qS _ _,sS,.inl ⟨rfl,rfl⟩⟩
 . exact⟨l,hl,a.row,a.short,.inr ⟨h,a.num⟩⟩
def PW{L M:Vy}(b:(L= []/\j=1)∨(1<j/\Num 18446744073709551616 L j))(c:(M= []/\k=1)∨(1<k/\Num 18446744073709551616 M k)):L=M↔j=k:=by
 rcases b with ⟨rfl,rfl⟩|⟨d,n1⟩<;>rcases c with ⟨rfl,rfl⟩|⟨e,a⟩
 . simp
 .
  constructor
  . rintro rfl;have:=a.eq;simp[val]at this;omega
  . intro h;omega
 .
  constructor
  . rintro rfl;have:=n1.eq;simp[val]at this;omega
  . intro h;omega
 .
  constructor
  . rintro rfl;rw[<-n1.eq,<-a.eq]
  . rintro rfl;exact n1.inj dD a
def Xo(p q:Rat):p=q↔(decide (p.num<0)=decide (q.num<0)/\p.num.natAbs=q.num.natAbs/\p.den=q.den):=by
 constructor
 . rintro rfl;exact⟨rfl,rfl,rfl⟩
 . rintro⟨a,b,c⟩;refine Rat.ext ?_ c;rw[<-EN p.num,<-EN q.num,a,b]
def XX(x y:Bool)(A bx B b2:Vx)(lx C mx D ly E my F:Nat)(p q:Rat)(w:Vz)(O:jr w x A lx C bx mx D p)(P:jr w y B ly E b2 my F q):
 Calls prog 186 #[.agg #[.bool x,.slice A lx C,.slice bx mx D],.agg #[.bool y,.slice B ly E,.slice b2 my F]] w fun e w'=>e=.returned (.bool (decide (p=q)))/\Below w.heap.size w w':=by
 obtain⟨Q,rfl,z⟩:=O.top;obtain⟨R,rfl,G⟩:=P.top;obtain⟨S,rfl,H,l,d⟩:=O.low.row;obtain⟨T,rfl,I,m,f⟩:=P.low.row;have hT:decide (Q=R)=decide (p.num.natAbs=q.num.natAbs):=by
  by_cases h:p.num.natAbs=q.num.natAbs
  . rw[dC h];rw[h]at z;exact dC (z.num.inj dD G.num)
  . rw[bS h];exact bS (fun X=>h (by rw[<-z.num.eq,<-G.num.eq,X]))
 have hL:decide (S=T)=decide (p.den=q.den):=by
  by_cases h:p.den=q.den
  . rw[dC h];exact dC ((PW d f).2 h)
  . rw[bS h];exact bS (fun X=>h ((PW d f).1 X))
 have n:=Xo p q;rw[<-O.neg,<-P.neg]at n;obtain⟨U,g⟩:=nm ((w.alloc (.cells #[.bool x,.slice A Q.length C,.slice bx S.length D] 99)).alloc (.cells #[.bool y,.slice B R.length E,.slice b2 T.length F] 99));have c:Bl w U:=by rw[<-g];exact lN w _ _
 have r:SB U (w.heap.size+1) 99 #[.bool y,.slice B R.length E,.slice b2 T.length F]:=by rw[<-g];exact xE w _ _ _ _
 have s:SB U w.heap.size 99 #[.bool x,.slice A Q.length C,.slice bx S.length D]:=by rw[<-g];exact(cK w _ _).alloc _
 obtain⟨a,i⟩:=Ia (PX A B C E Q R U (z.row.below c) (G.row.below c) z.short G.short) (fun w1 hb=>PX bx b2 D F S T w1 ((H.below c).below hb) ((I.below c).below hb) l m);rw[hT]at a;rw[hL]at i;obtain⟨x0,x1,-⟩:=zc s;obtain⟨y0,y1,-⟩:=zc r;obtain⟨J,K,t,u,j⟩:=Id s r c g n;have L:=c.size;clear O P z G H l d I m f hT hL n c s r g;by_cases Y:x=y
 .
  subst Y;by_cases V:p.num.natAbs=q.num.natAbs
  . rw[dC V]at a;go_enter func186,ntmps186;go_wp2_with fail;rw[u.o];go_fit a.o;rintro e w1 ⟨rfl,b⟩;have M:=Hi (i.o w1 b);obtain⟨-,-,x2,-⟩:=zc (J.o.below b J.o.lt);obtain⟨-,-,y2,-⟩:=zc (K.o.below b K.o.lt);have k:=Hi (t.o.trans (b.mono L));clear a i b;go_wp2_with fail;go_fit M.o;rintro e w2 ⟨rfl,N⟩;have Z:=Hi (k.o.trans (N.mono k.o.size));clear M N;go_wp2;go_ret;refine⟨?_,Z.o⟩;by_cases W:p.den=q.den
    . rw[dC W,dC (j.o.2 ⟨by trivial,V,W⟩)];rfl
    . rw[bS W,bS (fun h=>W (j.o.1 h).2.2)];rfl
  . rw[bS V]at a;have v:=Hi (bS (fun h=>V (j.o.1 h).2.1));go_enter func186,ntmps186;go_wp2_with fail;rw[u.o];go_fit a.o;rintro e w1 ⟨rfl,b⟩;have k:=Hi (t.o.trans (b.mono L));clear a i b;go_wp2;go_ret;exact⟨by rw[v.o];rfl,k.o⟩
 . have q0:(x == y)=false:=sU Y;have v:=Hi (bS (fun h=>Y (j.o.1 h).1));clear a i;go_enter func186,ntmps186;go_wp2;go_ret;exact⟨by rw[v.o];rfl,by rw[u.o];exact t.o⟩
def XW{c d:Ac}{q:Rat}(a:eF w c p)(b:eF w d q):Calls prog 186 #[c,d] w fun e w'=>e=.returned (.bool (decide (p=q)))/\Below w.heap.size w w':=by obtain⟨f,g,h,i,bx,j,k,rfl,a⟩:=a;obtain⟨l,m,n,o,b2,r,s,rfl,b⟩:=b;exact XX f l g bx m b2 h i j k n o r s p q w a b
def uc:Prop:=(prog.globalNamed "internal/strconv.uint64pow10").isSome=true
structure jq (w:Vz):Prop where
 most:∃m,w.cell? ⟨4,0,none⟩=some (.int .i64 m)
 tab:uc->wU w
def jq.below(h:jq w)(hb:Bl w w'):jq w':=by obtain⟨m,a⟩:=h.most;exact⟨⟨m,ce hb (bI _ _ a) a⟩,fun b=>(h.tab b).below hb⟩
structure FE where
 x:Value
 y:Value
 z:Value
 q:Rat
 k:Nat
abbrev Ah:=List FE
structure iH (w0 w:Vz) (L:List FE):Prop where
 base:Bl w0 w
 glob:jq w0
 ts:∀t,t∈ L->eF w (.agg #[t.x,t.y,t.z]) t.q/\Fits t.q t.k/\0<t.k
def iH.start{w:Vz}(h:jq w):iH w w []:=⟨ac _ _,h,fun t a=>by cases a⟩
def FR:=@iH.start
def iH.below{L:List FE}(h:iH w0 w L)(hb:Bl w w'):iH w0 w' L:=
 ⟨h.base.trans (hb.mono h.base.size),h.glob,fun t a=>⟨(h.ts t a).1.below hb,(h.ts t a).2⟩⟩
def iH.drew{L:List FE}(h:iH w0 w L):iH w0 w.drew L:=h.below bR.drew
def iH.Ct{L:List FE}(h:iH w0 w L):jq w:=h.glob.below h.base
def iH.get{L:List FE}{q:Rat}(h:iH w0 w L)(a:⟨x,y,z,q,k⟩∈ L):eF w (.agg #[x,y,z]) q/\Fits q k/\0<k:=h.ts _ a
def iH.put{L:List FE}{q:Rat}(h:iH w0 w L)(b:eF w (.agg #[x,y,z]) q)(c:Fits q k)(hk:0<k):iH w0 w (⟨x,y,z,q,k⟩ :: L):=
 ⟨h.base,h.glob,fun t a=>by
   rcases aY.1 a with rfl|a
   . exact⟨b,c,hk⟩
   . exact h.ts t a⟩
def iH.only{L:List FE}(h:iH w0 w L)(a:cE g w w')(c:SB w g t C)(d:pX C)(e:w0.heap.size<=g):iH w0 w' L:=
 ⟨fU h.base a e,h.glob,fun t b=>⟨(h.ts t b).1.only a c d,(h.ts t b).2⟩⟩
def iH.Jy{w1:Vz}{L M:List FE}(h:iH w1 w L)(hb:Bl w0 w1)(b:jq w0)(c:∀t,t∈ M->∃k,⟨t.x,t.y,t.z,t.q,k⟩∈ L/\k<=t.k):iH w0 w M:=by refine⟨hb.trans (h.base.mono hb.size),b,fun t d=>?_⟩;obtain⟨k,hk,a⟩:=c t d;have:=h.ts _ hk;exact⟨this.1,this.2.1.mono a,aF this.2.2 a⟩
def BO(w0:Vz)(L:List FE)(q:Rat)(k:Nat)(e:As)(w':Vz):Prop:=∃x y z,e=.returned (.agg #[x,y,z])/\iH w0 w' (⟨x,y,z,q,k⟩ :: L)
def iH.new{L:List FE}{q:Rat}{e:As}(h:iH w0 w L)(f:nP w q e w')(g:Fits q k)(hk:0<k):BO w0 L q k e w':=by obtain⟨⟨v,rfl,neg,a,n,c,b,m,d,rfl,i⟩,hb⟩:=f;exact⟨_,_,_,rfl,(h.below hb).put ⟨neg,a,n,c,b,m,d,rfl,i⟩ g hk⟩
def iH.qW{L:List FE}{q:Rat}(h:iH w0 w L)(a:⟨x1,x2,x3,p,j⟩∈ L)(b:⟨y1,y2,y3,q,k⟩∈ L)(f:j+k<68719476000):
 Calls prog 47 #[.agg #[x1,x2,x3],.agg #[y1,y2,y3]] w (BO w0 L (p - q) (j+k+1)):=by
 obtain⟨a,c,i⟩:=h.get a;obtain⟨b,d,l⟩:=h.get b;exact(CP a b c d f).mono fun e w' g=>h.new g (c.sub d) oO
def Fits.div{q:Rat}(h:Fits p j)(b:Fits q k)(c:0<j)(hk:0<k):Fits (p / q) (j+k):=by
 by_cases a:q=0
 . rw[a,lE,Rat.inv_zero,JD];exact nr.mono oO
 . rw[lE];exact h.mul (b.inv a) c
def iH.equal{L:List FE}{q:Rat}(h:iH w0 w L)(a:⟨x1,x2,x3,p,j⟩∈ L)(b:⟨y1,y2,y3,q,k⟩∈ L):
 Calls prog 186 #[.agg #[x1,x2,x3],.agg #[y1,y2,y3]] w (fun e w'=>e=.returned (.bool (decide (p=q)))/\iH w0 w' L):=by
 obtain⟨a,c,d⟩:=h.get a;obtain⟨b,f,g⟩:=h.get b;refine(XW a b).mono ?_;rintro e w' ⟨rfl,hb⟩;exact⟨rfl,h.below hb⟩
def iH.of{w0 w:Vz}{L:List FE}{n:Nat}(s:Vs)(h:iH w0 w L)(b:s.size<=n)(f:n<=1073741824):
 Calls prog 53 #[.string s] w (fun e w'=>∃q,il s.data.toList q/\BO w0 L q (4*n+1) e w'):=by
 obtain⟨m,c⟩:=h.Ct.most;refine(NH s m w c oO).mono ?_;rintro e w' ⟨q,a,d⟩;exact⟨q,a,h.new d (a.fits (by rw[ut];exact b)) oO⟩
def zT:=@iH.of
def Ps(h:∀v,v∈ C.toList->∀n,v≠Value.int .u64 n):pX C:=fun i n a=>h _ (by rw[<-dF]at a;exact mO a) n rfl
def ns(P:Au)(h:v.oneCell'=true):∀(a:Addr)(w:Vz),(store a v).run P w=stored P w a v .plain:=fun a w=>run_store P w a v .plain h
def eF.one{q:Rat}(h:eF w (.agg #[x,y,z]) q):x.oneCell'=true/\y.oneCell'=true/\z.oneCell'=true:=by obtain⟨neg,a,n,c,b,m,d,e,_⟩:=h;simp at e;obtain⟨rfl,rfl,rfl⟩:=e;exact⟨rfl,rfl,rfl⟩
def eF.no64{q:Rat}(h:eF w (.agg #[x,y,z]) q)(n:Int):x≠.int .u64 n/\y≠.int .u64 n/\z≠.int .u64 n:=by obtain⟨neg,a,m,c,b,k,d,e,_⟩:=h;simp at e;obtain⟨rfl,rfl,rfl⟩:=e;exact⟨sS,sS,sS⟩
def Tryz.AY:(prog.info? 34).map (·.size)=some 2:=kK
end Go.Proofs.YtfgclhpgdanmfaaGreatDoor
