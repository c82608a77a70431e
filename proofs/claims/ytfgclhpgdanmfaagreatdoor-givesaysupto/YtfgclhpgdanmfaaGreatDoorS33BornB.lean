import Derived.Test.YtfgclhpgdanmfaaGreatDoorS32PlnF
namespace Go.Proofs.YtfgclhpgdanmfaaGreatDoor
set_option linter.defProp false
open Go.RowKit
open Go.Proofs.Tryz
set_option linter.unusedSimpArgs false
set_option linter.unusedVariables false
set_option maxHeartbeats 8000000
set_option maxRecDepth 1000000
variable{B K b c g k m n:Nat}{a:AC}{w w':Vz}{v:Ac}{M:AI}
def wG(js:Ad)(bs:Ap)(hs:Ak)(ls:AE)(vs:Ai)(w:Vz)(e:As)(w':Vz):Prop:=
 Below w.heap.size w w'/\∃(lv:Ac)(c at_:Int),e=.returned (.tuple #[lv,.agg #[.int .i64 c,.int .i64 at_]])/\
  ((c≠0/\dW js bs hs c at_/\lv=.slice none 0 0)∨
   (dW js bs hs 0 0/\jI js.length (bs.length+hs.length) ls c at_/\((c≠0/\lv=.slice none 0 0)∨
     (c=0/\at_=0/\∃(g N:Nat)(ts:Am),N=2*js.length/\lv=.slice (some ⟨g,0,none⟩) N N/\rE w' g ts/\ts.length=N/\∀(i:Nat)(t:RT),ts[i]?=some t->t.2.1= -pJ vs i/\t.2.2<=kL 20))))
def jI.zero{a:AE}{x:Int}(h:jI b c a 0 x):a.length<=20/\(∀(i:Nat)(y:L3),a[i]?=some y->qn b y.j)/\x=0:=by
 rcases h with ⟨_,h,_⟩|⟨d,⟨_,_,_,_,_,h,_⟩|⟨e,_,f⟩⟩
 . cases h
 . cases h
 . exact⟨d,e,f⟩
def Vn(F H I Y:Vx)(c1 c2 c3 Z:Nat)(v:Ad)(x:Ap)(y:Ak)(E:AE)(vs:Ai)(w:Vz)(hg:jq w)(hf:ja w F H I c1 c2 c3 v x y)(hz:jL v x y)(hl:eO L3.cells w Y Z E)(hv:LVal E vs)(aa:E.length<=1048576):
 Calls prog 8 #[.agg #[.slice F v.length c1,.slice H x.length c2,.slice I y.length c3],.slice Y E.length Z] w (wG v x y E vs w):=by
 obtain⟨HG,HF,HZ,HL,ab⟩:=Id hg hf hz hl hv;clear hg hf hz hl hv;obtain⟨b,l⟩:=nm w.heap.size;obtain⟨V,J⟩:=nm ((w.alloc (.cells #[.slice F v.length c1,.slice H x.length c2,.slice I y.length c3] 26)).alloc (.cells #[.int .i64 0,.int .i64 0] 41));have m:=Ub J;have K:=Ug J l;have z:=Uh J l;obtain⟨ad,ae⟩:=Ia J l;have d:w.heap.size<=b+1:=oO;have L:=Hi (NQ F H I c1 c2 c3 v x y V (HG.o.below m.o) (HF.o.below m.o) HZ.o);clear J l;go_enter func8,ntmps8;go_wp2_with fail;rw[ad.o];simp only[ae.o];go_fit L.o;rintro e w1 ⟨c,A,rfl,M,q⟩;obtain⟨U,O⟩:=nm (w1.alloc (.cells #[.int .i64 c,.int .i64 A] 41));obtain⟨G,hG⟩:=nm w1.heap.size;have a:Bl V U:=by rw[<-O];exact q.alloc q.size _
 obtain⟨am,j,af,f⟩:=Ic a (m.o.trans (a.mono m.o.size)) (K.o.below a K.o.lt) (z.o.below a z.o.lt);have ag:=Uf O hG;have r:=Hi M;obtain⟨p0,p1,-⟩:=zc ag.o;obtain⟨x0,x1,x2,-⟩:=zc af.o;obtain⟨z0,z1,-⟩:=zc f.o;have f0:=f.o.free 0;have f1:=f.o.free 1;have P:b+1≠G:=by have h1:=z.o.lt;have h2:=q.size;omega
 obtain⟨Q,an⟩:=Ia O hG;rw[<-O]at p0 p1 x0 x1 x2 z0 z1 f0 f1;rw[<-hG]at p0 p1 P;clear a M O hG q L;by_cases hc:c=0
 .
  subst hc;obtain⟨s,_,_,rfl⟩:=r.o.Dd;have n1:=gP fun h=>s (.inr (.inl h))
  have n2:=gP fun h=>s (.inr (.inr (.inl h)))
  have n3:=gP fun h=>s (.inr (.inr (.inr h)))
  have ah:=Hi (Vo F H I Y c1 c2 c3 Z v.length x.length y.length E vs U (HG.o.below j.o).most (HL.o.below j.o) ab.o n1 n2 n3 aa);clear s;go_wp2_with fail;rw[Q.o];clear p0 p1 x0 x1 x2 z0 z1 f0 f1 P;go_fit ah.o;rintro e w2 ⟨B,c',x',R,S⟩;obtain⟨C,T⟩:=Ia R (j.o.trans (B.mono j.o.size));have k:=f.o.below B f.o.lt;obtain⟨z0,z1,-⟩:=zc k;have f0:=k.free 0;have f1:=k.free 1;have u:=Hi k;clear k R B;rcases S with ⟨ai,rfl⟩|⟨rfl,g,N,ts,hN,rfl,W,X,hq⟩
  . go_wp2;refine bK (B7 rfl _ _ (b+1) 41 #[.int .i64 c',.int .i64 x'] (0,0) _ rfl ((u.o.set 0 _).set 1 _) underlying41 rfl iy) rfl ?_;exact⟨(T.o.setCell (p:=⟨b+1,0,none⟩) d _).setCell (p:=⟨b+1,1,none⟩) d _,_,c',x',rfl,.inr ⟨r.o,C.o,.inl ⟨ai,rfl⟩⟩⟩
  . obtain⟨D,aj,HQ,HN⟩:=Ic W X hq hN;have ak:=C.o.zero.2.2;subst ak;clear W X hq hN;go_wp2;refine bK (B7 rfl _ _ (b+1) 41 #[.int .i64 0,.int .i64 0] (0,0) _ rfl ((u.o.set 0 _).set 1 _) underlying41 rfl iy) rfl ?_;have ho:cE (b+1) w2 ((w2.setCell ⟨b+1,0,none⟩ (.int .i64 0)).setCell ⟨b+1,1,none⟩ (.int .i64 0)):=((cX _ _).setCell _ _).setCell _ _;refine⟨(T.o.setCell (p:=⟨b+1,0,none⟩) d _).setCell (p:=⟨b+1,1,none⟩) d _,_,0,0,rfl,.inr ⟨r.o,C.o,.inr ⟨rfl,rfl,g,N,ts,HN.o,rfl,⟨D.o.blk.only ho (D.o.blk.unlike u.o dD),fun t ht=>?_⟩,aj.o,HQ.o⟩⟩⟩;obtain⟨v1,v2,v3⟩:=D.o.vs t ht;exact⟨v1.sf ho u.o dD (fun i n h=>by match i,h with|0,h=>simp at h|1,h=>simp at h|i+2,h=>simp at h),v2,v3⟩
 .
  have e0:(c != 0)=true:=sU hc;go_wp2;go_region
  all_goals
   go_wp2;rw[Q.o];refine bK (B7 rfl _ _ (b+1) 41 #[.int .i64 c,.int .i64 A] (0,0) _ rfl ((f.o.set 0 _).set 1 _) underlying41 rfl iy) rfl ?_;exact⟨((j.o.setCell (p:=⟨b+1,0,none⟩) d _).setCell (p:=⟨b+1,1,none⟩) d _).drew,_,c,A,rfl,.inl ⟨hc,r.o,rfl⟩⟩
def vU(N:Nat)(M:AI)(c:Nat):cW:=fun i=>if i<N then M i c else 0
theorem Mq(r x:cW):∀n,dot (2*n) r x=vf n (fun q=>r (2*q)*x (2*q)+r (2*q+1)*x (2*q+1))
 |0=>rfl
 |n+1=>by
  rw[show 2*(n+1)=2*n+1+1 by omega]
  show dot (2*n) r x+r (2*n)*x (2*n)+r (2*n+1)*x (2*n+1)=vf n _+_
  rw[Mq r x n];grind
def Mp{p:Al}(v:cW)(c:p.1<n)(d:p.2.1<n)(e:p.1≠p.2.1):dot (2*n) (fun i=>if i<2*n then mN p i else 0) v= -(p.2.2.1*(v (2*p.2.1) - v (2*p.1))+p.2.2.2*(v (2*p.2.1+1) - v (2*p.1+1))):=by
 rw[rG (2*n) _ v (mN p) v (fun i f=>by rw[aN f]),Mq,NM n _ p.1 p.2.1 c d e (fun q _ j hb=>?_)]
 .
  have a:mN p (2*p.1)=p.2.2.1:=aN rfl;have b:mN p (2*p.1+1)=p.2.2.2:=by unfold mN;rw[aH oO,aH oO,aN rfl]
  have g:mN p (2*p.2.1)= -p.2.2.1:=by unfold mN;rw[aH oO,aN rfl]
  have h:mN p (2*p.2.1+1)= -p.2.2.2:=by unfold mN;rw[aH oO,aH oO,aH oO,aN rfl]
  simp only[a,b,g,h];grind
 .
  have a:mN p (2*q)=0:=by unfold mN;rw[aH oO,aH oO,aH oO,aH oO]
  have b:mN p (2*q+1)=0:=by unfold mN;rw[aH oO,aH oO,aH oO,aH oO]
  simp only[a,b];grind
section
variable {n P b K1 K2:Nat} {js:Ad} {bs:Ap} {hs:Ak} {vb:Aa} {vh:Vy} {vs:Ai}
def QG(f:rZ n js bs hs vb vh)(v:cW){i:Nat}{p:Al}(a:vb[i]?=some p)(c:p.1<js.length)(d:p.2.1<js.length)(e:p.1≠p.2.1):dot (2*js.length) (vU (2*js.length) (dP vb bs.length vh) i) v= -stretch p v:=by
 rw[show vU (2*js.length) (dP vb bs.length vh) i=fun r=>if r<2*js.length then mN p r else 0 from by
  funext r
  simp only[vU,dP,a]]
 exact Mp v c d e
def QF(f:rZ n js bs hs vb vh)(v:cW){i r:Nat}(g:vh[i]?=some r)(d:r<2*js.length):dot (2*js.length) (vU (2*js.length) (dP vb bs.length vh) (bs.length+i)) v=v r:=by
 have e:∀q,q<2*js.length->vU (2*js.length) (dP vb bs.length vh) (bs.length+i) q=if q=r then 1 else 0:=fun q j=>by
  have l:vb[bs.length+i]?=none:=aO (oB f.lb);simp only[vU,aN j,dP,l,fI,g];by_cases h:q=r
  . rw[aN ⟨oO,h⟩,aN h]
  . rw[aH (fun k=>h k.2),aH h]
 rw[B8 _ _ _ r d (fun c m a=>by rw[e c m,aH a];grind),e r d,aN rfl];grind
end
section
open Go.ChangeShapes Go.WideShapes Go.ChangeAt Go.RowKit
section
variable {H:Type} {enc:TypeId × Value->H} {W:Vz}
theorem MS:∀a:Ad,jW a<=Rows.uptoBulkAll (a.map (sG (H:=H)))
 | []=>by simp[jW,Rows.uptoBulkAll]
 |s :: l=>by have b:=MS l;have c:=(JX (H:=H) s).2;simp only[jW,dY,Rows.uptoBulkAll];omega
end
def Si:prog.readableRec 28=true:=kK
def Sh:28<prog.types.size:=by refine lz ?_;kernel_rfl
end
section
open Go.ChangeShapes Go.WideShapes Go.ChangeAt Go.RowKit
def JU:prog.cellsOf 36=3:=kK
def S9:prog.readableRec 27=true:=kK
def S8:27<prog.types.size:=by refine lz ?_;kernel_rfl
section
variable {H:Type} {enc:TypeId × Value->H} {W:Vz}
theorem MV{P:Au}{w:Vz}{base:Nat}{b:AH}{c:Bool}{d:Nat}{f g i e:Vr}{f0 f1 j k:Field}{m:Vv}{x:DataW H × List MemPlace}(z:P.underlying f=some (.struct #[f0,f1]))(A:P.underlying g=some (.int .i64))(B:P.underlying i=some (.struct #[j,k]))(C:P.underlying e=some .string)(D:P.cellsOf f=3)(E:P.cellsOf g=1)(y:P.cellsOf i=2)(F:P.cellsOf e=1)(t0:f0.type=g)(t1:f1.type=i)(G:f0.offset=0)(I:f1.offset=1)(J:j.type=e)(K:k.type=e)(L:j.offset=0)(M:k.offset=1)(h:DataW.trod enc P w base b c d f m=some x):∃l:L3,m=l.cells/\x.1=rN l:=by
 obtain⟨xs,n,rfl,rfl,hl,o,p⟩:=pI z h;rw[D]at hl;clear h;have q:=p 0 f0 rfl;have r:=p 1 f1 rfl;rw[t0,G,E]at q;rw[t1,I,y]at r;clear p
 match m,hl,xs,o with
 | [v0,v1,v2],_,[y0,y1],_=>
   simp only[iP,nW,nU,rn,aI,aM]at q r;obtain⟨a,N,rfl,_⟩:=rV A q;obtain⟨s,t,u,O,_⟩:=Lg B C y F J K L M r;obtain rfl:v0=_:=sU N;injection u with u v
   injection v with v _
   subst u v;refine⟨⟨a,s,t⟩,rfl,?_⟩
   show DataW.agg [_,y1.1]=_
   rw[O];rfl
def MU(l:L3):1<=Rows.uptoBulk (rN (H:=H) l)/\l.x.size+l.y.size<=Rows.uptoBulk (rN (H:=H) l):=by simp[rN,mh,Rows.uptoBulk,Rows.uptoBulkAll];omega
theorem MT:∀a:AE,lW a<=Rows.uptoBulkAll (a.map (rN (H:=H)))
 | []=>by simp[lW,Rows.uptoBulkAll]
 |s :: l=>by have b:=MT l;have c:=(MU (H:=H) s).2;simp only[lW,dY,Rows.uptoBulkAll];omega
def Sn{a:Vx}{n c:Nat}{d:DataW H}{i:List MemPlace}(h:DataW.Trod enc prog W 0 (fun _=>true) true 27 (.slice a n c) d i):
 ∃b:AE,n=b.length/\eO L3.cells W a c b/\Rows.uptoBulkAll (b.map (rN (H:=H)))<=Rows.uptoBulk d:=by
 obtain⟨f,h⟩:=h;obtain⟨j,k,b,e,l,hl,m⟩:=G0 (c:=L3.cells) (dat:=rN) (sz:=3) ⟨0,⟨#[]⟩,⟨#[]⟩⟩ dD (fun _=>rfl) underlying27 JU (fun f s x o=>MV underlying36 underlying3 underlying34 underlying32 JU l7 GZ CN rfl rfl rfl rfl rfl rfl rfl rfl o) h;have g: [Value.slice a n c]= [Value.slice j b.length k]:=e;injection g with g _
 injection g with p q r
 subst p q r;exact⟨b,rfl,l,Dr lZ hl m⟩
end
end
def Gl:∀w,(zeroValue 32).run prog w=.ok (.string ⟨#[]⟩) w:=by intro w;have a:(prog.info? 32).map (·.zero)=some (some (.string ⟨#[]⟩)):=kK;obtain⟨i,b,h⟩:=aZ.1 a;simp[zeroValue,typeInfo,b,h]
def Ro(w:Vz):Calls prog 16 #[.slice none 0 0] w fun e w'=>e=.returned (.tuple #[])/\w'=w:=by
 go_enter func16,ntmps16;have a:∀(w:Vz) ty,(Builtin.clear_ #[28] ty #[.slice none 0 0]).run prog w=.ok (.tuple #[]) w:=fun w ty=>by simp[Builtin.clear_,underlying,underlying28]
 go_wp2;go_end0;exact⟨rfl,rfl⟩
def Rn(g n:Nat)(C:Vw)(w:Vz)(a:SB w g 32 C)(f:C.size=n)(l:n<=1000):
 Calls prog 16 #[.slice (some ⟨g,0,none⟩) n n] w fun e w'=>e=.returned (.tuple #[])/\cE g w w'/\∃b,SB w' g 32 b/\b.size=n:=by
 have h:O (cE g w (w.setCells g 0 (List.replicate n (.string ⟨#[]⟩)))/\∃b,SB (w.setCells g 0 (List.replicate n (.string ⟨#[]⟩))) g 32 b/\b.size=n):=Hi ⟨(SB.cells _ 0 a).2,_,(SB.cells _ 0 a).1,by rw[Fw];exact f⟩;have d:∀ty,(Builtin.clear_ #[28] ty #[.slice (some ⟨g,0,none⟩) n n]).run prog w=.ok (.tuple #[]) (w.setCells g 0 (List.replicate n (.string ⟨#[]⟩))):=fun ty=>by
  rcases eE n with rfl|i
  . simp[Builtin.clear_,underlying,underlying28,World.setCells]
  . exact Lib.run_clear_slice w _ _ ty _ underlying28 Gl rfl rfl g 0 n n i (fun j k=>by
     rw[cC,a.cell,iG oO]
     rfl) (fun j k=>a.free _)
 obtain⟨w1,c⟩:=nm (w.setCells g 0 (List.replicate n (.string ⟨#[]⟩)));rw[c]at h d;clear a f c;go_enter func16,ntmps16;go_wp2;go_end0;exact⟨rfl,h.o⟩
def PN:(prog.info? 81).map (fun i=>(i.zero,i.size,i.bytes))=some (some (.slice .none 0 0),1,24):=kK
def X5(n:Nat):madeCells (Value.cells (.slice none 0 0)) n=(List.replicate n (Value.slice none 0 0)).toArray:=by
 have e:Value.cells (.slice none 0 0)=#[.slice none 0 0]:=by rfl
 rw[e];apply tT;rw[qI]
def PM(n:Nat)(d:n<=1048576)(w:Vz):(Instr.makeSlice 79 (.int .i64 n) (.int .i64 n)).run prog w=.ok (.slice (some ⟨w.heap.size,0,.none⟩) n n) (w.alloc (.cells (List.replicate n (Value.slice none 0 0)).toArray 81)):=by obtain⟨i,a,h⟩:=aZ.1 PN;simp only[fZ]at h;obtain⟨b,c,hb⟩:=h;have:=qJ w 79 81 i _ underlying79 a b .i64 .i64 n n oO oO (rO hb) oO;rw[fC,c,eP,X5]at this;exact this
def jD.keep{a:Am}(h:jD w B v a)(hk:∀b,v.ownBlock=some b->w'.heap[b]?=w.heap[b]?)(d:∀b q,cQ w b q->cQ w' b q):jD w' B v a:=
 ⟨h.list.keep hk,fun t c=>⟨d _ _ (h.vs t c).1,(h.vs t c).2⟩⟩
def jD.ptr{a:Am}(h:jD w B v a)(hb:v.ownBlock=some b):∃C,SB w b 63 C:=by obtain⟨C,c,_⟩:=h.list.sb hb;exact⟨C,c⟩
def SB.same{t:Vr}{C:Vw}(h:SB w b t C)(e:w'.heap[b]?=w.heap[b]?):SB w' b t C:=by unfold SB at h ⊢;rw[e];exact h
structure GR (w:Vz) (B g:Nat) (vs:Vv) (tss:AC):Prop where
 blk:SB w g 81 vs.toArray
 low:B<=g
 len:tss.length=vs.length
 row:∀(i:Nat)(v:Ac)(ts:Am),vs[i]?=some v->tss[i]?=some ts->jD w B v ts
 apart:∀(i j:Nat)(u v:Ac)(b:Nat),i≠j->vs[i]?=some u->vs[j]?=some v->u.ownBlock=some b->v.ownBlock≠some b
section
variable {w w':Vz} {B g:Nat} {vs:Vv} {tss:AC}
def GR.below(h:GR w B g vs tss)(hb:Bl w w'):GR w' B g vs tss:=⟨h.blk.below hb h.blk.lt,h.low,h.len,fun i v a b c=>(h.row i v a b c).below hb,h.apart⟩
def GR.start(w:Vz)(n:Nat):GR (w.alloc (.cells (List.replicate n (Value.slice none 0 0)).toArray 81)) w.heap.size w.heap.size (List.replicate n (Value.slice none 0 0)) (List.replicate n []):=by
 refine⟨cK _ _ _,aV _,sS,fun i v e a c=>?_,fun i j u v b _ d _ hb=>?_⟩
 . obtain⟨_,rfl⟩:=fM.1 (mO a);obtain⟨_,rfl⟩:=fM.1 (mO c);exact jD.nil _ _
 . obtain⟨_,rfl⟩:=fM.1 (mO d)
   cases hb
def GR.get(h:GR w B g vs tss){i:Nat}{v:Ac}(d:vs[i]?=some v):∃b,tss[i]?=some b/\jD w B v b/\w.cell? ⟨g,i,none⟩=some v/\∃a c,v=.slice a b.length c:=by obtain⟨b,f⟩:∃b,tss[i]?=some b:=⟨_,gE (by rw[h.len];exact(gZ d).1)⟩;have j:=h.row i v b d f;obtain⟨a,c,e,_⟩:=j.row;exact⟨b,f,j,by rw[h.blk.cell];simpa using d,a,c,e⟩
def GR.sl(h:GR w B g vs tss){v:Ac}(b:v∈ vs):jy v:=by obtain⟨i,d⟩:=dM b;obtain⟨f,_,_,_,a,c,e⟩:=h.get d;exact⟨_,_,_,e⟩
def GR.qu(h:GR w B g vs tss){v:Ac}{b:Nat}(a:v∈ vs)(hb:v.ownBlock=some b):b≠g/\b<w.heap.size:=by obtain⟨i,c⟩:=dM a;obtain⟨e,_,d,_⟩:=h.get c;obtain⟨C,hC⟩:=d.ptr hb;exact⟨hC.unlike h.blk FC,hC.lt⟩
def GY{α:Type}{l:List α}{i j:Nat}{x y:α}(h:(l.set i x)[j]?=some y):(j=i/\x=y)∨(j≠i/\l[j]?=some y):=by
 by_cases e:j=i
 . subst e;have hl:=(gZ h).1;rw[bP (sU hl)]at h;exact .inl ⟨rfl,aD h⟩
 . rw[bN (gH e)]at h
   exact .inr ⟨e,h⟩
def GR.app{i pb K:Nat}{q:Rat}{v:Ac}{R:Am}(h:GR w B g vs tss)(F:vs[i]?=some v)(V:tss[i]?=some R)(hq:cQ w pb q)(hf:Fits q K)(hK:0<K)(hn:R.length<=1000)(hB:B<=w.heap.size)(ty:Vr):
 ∃n w',sQ prog 81 ty v (.slice (some ⟨w.heap.size,0,none⟩) 1 1) (w.alloc (.cells #[.pointer (some ⟨pb,0,none⟩)] 63))=.ok n w'/\w'.cell? ⟨g,i,none⟩=some v/\w'.frozen? ⟨g,i,none⟩=false/\(∃a c,n=.slice a (R.length+1) c)/\
  GR (w'.setCell ⟨g,i,none⟩ n) B g (vs.set i n) (tss.set i (R++ [(pb,q,K)]))/\Below B w w'/\(∀b q,cQ w b q->cQ (w'.setCell ⟨g,i,none⟩ n) b q)/\
  ∀p,(∀u,u∈ vs->u.ownBlock≠some p)->p<w.heap.size->p≠g->(w'.setCell ⟨g,i,none⟩ n).heap[p]?=w.heap[p]?/\∀u,u∈ vs.set i n->u.ownBlock≠some p:=by
 obtain⟨Y,W⟩:=nm (w.alloc (.cells #[.pointer (some ⟨pb,0,none⟩)] 63));have d:Bl w Y:=by rw[<-W];exact(ac _ _).alloc lZ _
 have X:Y.cell? ⟨w.heap.size,0,none⟩=some (.pointer (some ⟨pb,0,none⟩)):=by rw[<-W];exact yA w _ _
 rw[W];have s:=h.below d;have hp:=s.row i v R F V;obtain⟨n,w',S,y,Z,T,G,U⟩:=hp.Gf (t:=81) (us:=[(pb,q,K)]) (nb:=w.heap.size) (c:=1) (m:=1) underlying81 (fun t V=>by
  obtain rfl:=bE.1 V
  exact⟨hq.below d,hf,hK⟩) rfl (fun j u H=>by
  match j,H with
  |0,H=>
   obtain rfl:Value.pointer (some ⟨pb,0,none⟩)=u:=by simpa [lS] using H
   rw[xA]
   exact X) oO (aE hB d.size) ty
 have z:=mO F;have l:∀b,b<Y.heap.size->v.ownBlock≠some b->w'.heap[b]?=Y.heap[b]?:=fun b hb I=>G.block b hb (fun e=>I e.symm)
 have f:=s.blk.same (l g s.blk.lt (fun e=>(s.qu z e).1 rfl));have ho:cE g w' (w'.setCell ⟨g,i,none⟩ n):=(cX g w').setCell _ _;have aa:∀u,u∈ vs.toArray.toList->jy u:=fun u o=>h.sl (sU o)
 have J:∀b q,cQ w' b q->cQ (w'.setCell ⟨g,i,none⟩ n) b q:=fun b q hb=>hb.fs (Fs.iw ho f aa)
 have r:=fun b hb hl=>ho.block b hl hb
 have ab:=(gZ F).1;have L:∀b,n.ownBlock=some b->v.ownBlock=some b∨(v.ownBlock≠some b/\Y.heap.size=b):=fun b hb=>by
  rcases U with e|e
  . exact .inl (e ▸ hb)
  . rw[e]at hb;obtain rfl:=aD hb;exact .inr ⟨fun Q=>by have:=(s.qu z Q).2;omega,rfl⟩
 obtain⟨na,nc,ad,_⟩:=y.row;refine⟨n,w',S,by rw[f.cell];simpa using F,f.free i,⟨na,nc,by simpa using ad⟩,⟨?_,h.low,by simp[h.len],fun j u us o A=>?_,fun j k u x b D o hx hb=>?_⟩,?_,fun b q hb=>J b q ((hb.below d).fp T),fun p M N I=>⟨?_,fun u o=>?_⟩⟩
 . have:=f.set i n
   simpa using this
 .
  rcases GY o with ⟨rfl,rfl⟩|⟨H,o⟩
  . rw[bP (by rw[h.len];exact ab)]at A;obtain rfl:=aD A;refine y.keep (fun b hb=>r b ?_ (y.list.lt hb).2) J;obtain⟨C,hC⟩:=y.ptr hb;exact hC.unlike f FC
  . rw[bN (gH H)]at A;have O:=s.row j u us o A;refine(O.keep (w':=w') (fun b hb=>l b (O.list.lt hb).2 (fun e=>s.apart i j v u b (gH H) F o e hb)) (fun b q hb=>hb.fp T)).keep (fun b hb=>r b (s.qu (mO o) hb).1 ?_) J;exact aF (O.list.lt hb).2 G.size
 .
  rcases GY o with ⟨ej,eu⟩|⟨H,P⟩
  .
   rcases GY hx with ⟨ek,_⟩|⟨hk,E⟩
   . exact absurd (ej.trans ek.symm) D
   . rw[<-eu]at hb;rcases L b hb with e|⟨_,e⟩
     . exact h.apart i k v x b (by rw[<-ej];exact D) F E e
     . exact fun Q=>oB ((s.qu (mO E) Q).2)
  .
   rcases GY hx with ⟨ek,ex⟩|⟨hk,E⟩
   . intro Q;rw[<-ex]at Q;rcases L b Q with e|⟨_,e⟩
     . exact h.apart i j v u b (by rw[<-ek];exact gH D) F P e hb
     . have:=(s.qu (mO P) hb).2
       omega
   . exact h.apart j k u x b D P E hb
 . exact(d.mono hB).trans Z
 . rw[r p I (aF N (aE d.size G.size)),l p (aF N d.size) (M v z),d.block p N]
 .
  rcases dN o with o|rfl
  . exact M u o
  .
   intro e;rcases L p e with e|⟨_,e⟩
   . exact M v z e
   . have:=d.size
     omega
end
def rS(M:AI)(K i k:Nat)(tss:AC):Prop:=∀(r:Nat)(ts:Am),tss[r]?=some ts->ts.length=(if r<i then k+1 else k)/\∀(c:Nat)(t:RT),ts[c]?=some t->t.2.1=M r c/\t.2.2=K
def rS.step{i pb:Nat}{d:Am}{q:Rat}(h:rS M K i k a)(m:a[i]?=some d)(n:q=M i k):rS M K (i+1) k (a.set i (d++ [(pb,q,K)])):=by
 intro r us b;have g:=h i d m;rw[aH (sk _)]at g;rcases GY b with ⟨rfl,rfl⟩|⟨o,b⟩
 .
  rw[aN (nJ _),aS,g.1];refine⟨rfl,fun c t f=>?_⟩;rcases bB c d.length with hl|hl
  . rw[aR hl]at f
    exact g.2 c t f
  . have j:=(gZ f).1;rw[aS,io]at j;obtain rfl:c=d.length:=oO;rw[aX lZ,fA]at f;obtain rfl:=aD f;rw[g.1];exact⟨n,rfl⟩
 .
  have l:=h r us b;refine⟨?_,l.2⟩;rw[l.1];by_cases e:r<i
  . rw[aN e,aN oO]
  . rw[aH e,aH oO]
def rS.next(h:rS M K n k a)(d:a.length<=n):rS M K 0 (k+1) a:=by intro r e b;have c:=h r e b;rw[aN (aF (gZ b).1 d)]at c;rw[aH (qA _)];exact c
def GR.mono{B':Nat}{vs:Vv}(h:GR w B g vs a)(hB:B'<=B):GR w B' g vs a:=⟨h.blk,aE hB h.low,h.len,fun i v b c d=>(h.row i v b c d).low hB,h.apart⟩
def PV.take{x:cW}{b:Am}(h:PV w B g n K x b):lk w (some ⟨g,0,none⟩) (b.take m):=
 ⟨⟨fun j u c=>by
   obtain⟨t,a,rfl⟩:=aZ.1 (by rw[aP]at c;exact c);have hl:=(gZ a).1;rw[cI]at hl;rw[aW oO]at a
   exact⟨g,0,rfl,h.blk.blk.lt,by rw[cC];exact h.blk.cell a⟩⟩,fun t a=>h.blk.vs t (dR a)⟩
def PV.drop{x:cW}{b:Am}(h:PV w B g n K x b):lk w (some ⟨g,m,none⟩) (b.drop m):=
 ⟨⟨fun j u c=>by
   obtain⟨t,a,rfl⟩:=aZ.1 (by rw[aP]at c;exact c);rw[fN]at a
   exact⟨g,m,rfl,h.blk.blk.lt,h.blk.cell a⟩⟩,fun t a=>h.blk.vs t (fR a)⟩
def lk.nil(w:Vz)(a:Vx):lk w a []:=⟨⟨fun j u b=>by simp at b⟩,fun t c=>by cases c⟩
def LW{W:Nat}(a:c<W)(x:cW):dot W x (mM c)=x c:=by rw[B8 W x _ c a (fun i _ b=>by simp only[mM,aH b];grind)];simp only[mM,aN];grind
def X4(a1 a2 a3:Vx)(c1 c2 c3 K:Nat)(S:Ad)(a:Ap)(B:Ak)(vb:Aa)(vh:Vy)(w:Vz)(hg:∃m,w.cell? ⟨4,0,none⟩=some (.int .i64 m))(hf:ja w a1 a2 a3 c1 c2 c3 S a B)(T:rZ 1048576 S a B vb vh)(hw:∀(i:Nat)(h:H3),B[i]?=some h->h.w=1∨h.w=2)(hK:738197945<=K):
 Calls prog 32 #[.agg #[.slice a1 S.length c1,.slice a2 a.length c2,.slice a3 B.length c3]] w fun e w'=>∃(N g:Nat)(vs:Vv)(d:AC),N=2*S.length/\e=.returned (.slice (some ⟨g,0,none⟩) N N)/\GR w' w.heap.size g vs d/\vs.length=N/\rS (dP vb a.length vh) K 0 (a.length+B.length) d/\Below w.heap.size w w':=by
 have n1:=T.j;have n2:=T.b;have n3:=T.h;obtain⟨HG,HF,HV,HW⟩:=Ic (lM hg) hf T hw;obtain⟨N,hN⟩:=nm (2*S.length);obtain⟨n,hn⟩:=nm (a.length+B.length);have eN:IntKind.i64.wrap (2*(S.length:Int))=(N:Int):=by rw[wrap_i64 _ oO oO];omega
 have ar:=fun w=>PM N oO w
 obtain⟨MC,am⟩:=nm ((List.replicate N (Value.slice none 0 0)).toArray);rw[am]at ar;obtain⟨B0,an⟩:=nm w.heap.size;obtain⟨V,hV⟩:=nm (w.alloc (.cells #[.slice a1 S.length c1,.slice a2 a.length c2,.slice a3 B.length c3] 26));have au:=Ua hV;have av:=Uf hV an;obtain⟨aw,U⟩:=Ia hN hn;have br:N<=20:=oO;have bt:n<=44:=oO;have bu:a.length<=n:=oO;obtain⟨bl,bm,bn⟩:=Ib hV an am;clear hg hf T hw hN hn am hV an;go_enter func32,ntmps32;go_wp2_with fail;rw[bl.o];simp only[bm.o];go_fit (Fx a1 a2 a3 c1 c2 c3 S.length a.length B.length V n2 n3);rintro e w1 ⟨rfl,W⟩;have en:((a.length:Int)+(B.length:Int))=(n:Int):=oB U.o;rw[en];obtain⟨bv,H⟩:=Ia W (au.o.trans (W.mono au.o.size));have ao:=av.o.below W av.o.lt;obtain⟨z0,-⟩:=zc ao;obtain⟨g,ap⟩:=nm w1.heap.size;obtain⟨W1,X⟩:=nm (w1.alloc (.cells MC 81));have ax:O (GR W1 g g (List.replicate N (Value.slice none 0 0)) (List.replicate N [])):=Hi (by rw[<-X,<-bn.o,<-ap];exact GR.start w1 N);have ay:=Ua X;obtain⟨Y,x,az⟩:=Ib ao ap X;clear W en ao ap X;go_wp2_with fail;rw[az.o];rw[x.o];clear z0 ar;go_loopw [5] (fun iv wr=>∃(k:Nat)(vs:Vv)(d:AC),k<=n/\iv=.int .i64 k/\GR wr g g vs d/\vs.length=N/\rS (dP vb a.length vh) K 0 k d/\Below g w1 wr) (fun iv _=>n - (intOf iv).toNat)
 case atStart=> refine⟨0,_,_,cJ _,rfl,ax.o,sS,fun r ts hr=>?_,ay.o.mono (cO x.o.symm)⟩;obtain⟨_,rfl⟩:=fM.1 (mO hr);exact⟨sS,fun c t hc=>by simp at hc⟩
 case round=>
  clear ax ay az;obtain⟨k,vs,d,hk,rfl,I,J,L,E⟩:=hrel;obtain⟨l,y,C,F,M⟩:=Id I J L E (H.o.trans (E.mono (oC x.o H.o.size)));clear I J L E;by_cases bo:k<n
  .
   have q1:(k:Int)<(n:Int):=oO;have HU:=Hi (NA n k wr ((HG.o.below M.o).glob) bo oO);go_wp2_with fail;go_fit HU.o;rintro e w2 ⟨gu,us,rfl,a0,Z⟩;obtain⟨z,P,aa,s⟩:=Ic a0 (M.o.trans (Z.mono M.o.size)) (l.o.below Z) (F.o.trans (Z.mono (oC F.o.size x.o)));clear a0 Z HU;have a4:=Y.o.below s.o (oC Y.o.lt x.o);obtain⟨z0,z1,z2,-⟩:=zc a4;clear a4;obtain⟨A,hA,a5⟩:∃A:Addr,(if n=a.length then some (⟨gu,0,none⟩:Addr) else some ⟨gu,a.length,none⟩)=some A/\lk w2 (some A) (us.drop a.length):=by
    by_cases e:n=a.length
    . refine⟨⟨gu,0,none⟩,by simp[e],?_⟩;rw[dG (by rw[z.o.len];omega)];exact lk.nil _ _
    . exact⟨⟨gu,a.length,none⟩,by simp[e],z.o.drop⟩
   have a6:n - a.length=B.length:=oB U.o;have a7:=Hi (fun u (hu:Bl w2 u)=>TV a1 a2 a3 (some ⟨gu,0,none⟩) (some A) c1 c2 c3 n B.length 1 S a B vb vh (us.take a.length) (us.drop a.length) (mM k) u (((HG.o.below P.o).below hu).glob) ((HF.o.below P.o).below hu) HV.o HW.o (z.o.take.below hu) (by rw[cI,z.o.len];omega) (a5.below hu) (by rw[ix,z.o.len];exact a6) (fun i t ht=>by
    rw[aW (by have:=(gZ ht).1;rw[cI]at this;omega)]at ht
    exact z.o.q i t ht) (fun i t ht=>by
    rw[fN]at ht
    exact z.o.q _ t ht) dD)
   clear a5;go_wp2_with fail;go_region_held3 (fun v=>v.cell? ⟨B0,0,none⟩=some (.slice a1 S.length c1)/\v.cell? ⟨B0,1,none⟩=some (.slice a2 a.length c2)/\v.cell? ⟨B0,2,none⟩=some (.slice a3 B.length c3)) ((first|(simp [*];done)|go_keep)) (first
    |(
     go_at_call_of 71 (Value.slice (some ⟨gu,0,none⟩) a.length n);apply cM;apply a7.o;(focus(repeat(first|exact ac _ _|apply CK|apply CJ)));rintro e w3 ⟨N',ge,es,ab,rfl,G,aq⟩;rw[aw.o]at ab;have ab:=ab.symm;subst ab;have f:=Hi G;have ad:O (Bl w2 w3):=Hi (by first|exact aq|exact(ac _ _).drew.trans aq);have a8:O (w2.heap.size<=ge):=Hi G.low;clear G aq z0 z1 z2;have a9:=Y.o.below (s.o.trans (ad.o.mono (oC s.o.size x.o))) (oC Y.o.lt x.o);obtain⟨z0,z1,z2,-⟩:=zc a9;clear a9
     skip)
    |fail)
   all_goals
    clear z0 z1 z2 hA a6;obtain⟨ba,ae⟩:=Ia (aa.o.below ad.o) (s.o.trans (ad.o.mono (oC s.o.size x.o)));have D:O (∀u,u∈ vs->u.ownBlock≠some ge):=Hi (fun u hu e=>by have:=(aa.o.qu hu e).2;have:=a8.o;omega);have bb:O (ge≠g):=Hi (fun e=>by have:=aa.o.blk.lt;have:=a8.o;omega);clear a7 z aa;go_wp2_with fail;go_loopw [37] (fun iv wr=>∃(i:Nat)(vs:Vv)(d:AC),i<=N/\iv=.int .i64 i/\GR wr g g vs d/\vs.length=N/\rS (dP vb a.length vh) K i k d/\PV wr ge ge N 738197945 (fun r=>dot (a.length+B.length) (dP vb a.length vh r) (mM k)) es/\(∀u,u∈ vs->u.ownBlock≠some ge)/\Below g w1 wr) (fun iv _=>N - (intOf iv).toNat)
    case atStart=>exact⟨0,vs,d,cJ _,rfl,ba.o,y.o,C.o,⟨f.o.blk,aV _,f.o.len,f.o.q⟩,D.o,ae.o⟩
    case round=>
     clear ba ae D l y C f M P F s ad;obtain⟨i,vs,d,hi,rfl,I,J,L,G,af,E⟩:=hrel;obtain⟨l,y,C,f,D,F⟩:=Ie I J L G af E;clear I J L G af E;by_cases bc:i<N
     . obtain⟨v,T⟩:∃v,vs[i]?=some v:=⟨_,gE (by rw[y.o];exact bc)⟩;obtain⟨ts,Q,hp,x0,va,vc,rfl⟩:=l.o.get T;obtain⟨pb,pk,_,x1,hq,bd,_⟩:=f.o.get bc;have ag:=(C.o i ts Q).1;rw[aH (sk _)]at ag;obtain⟨v',w4,be,x2,x3,⟨na,nc,bp⟩,ah,bf,bg,bh⟩:=l.o.app T Q hq (bd.mono hK) oO oO (oC l.o.low l.o.blk.lt) 81;subst bp;obtain⟨ai,aj⟩:=bh ge D.o f.o.blk.blk.lt bb.o;have ak:=Hi ah;have bi:=Hi (bf.setCell (p:=⟨g,i,none⟩) l.o.low (.slice na (ts.length+1) nc));have al:O (PV _ ge ge N 738197945 _ es):=Hi ⟨⟨f.o.blk.blk.same ai,fun t ht=>⟨bg _ _ (f.o.blk.vs t ht).1,(f.o.blk.vs t ht).2⟩⟩,f.o.low,f.o.len,f.o.q⟩;have R:=Hi aj;have bj:=Hi (C.o.step (pb:=pb) Q (show dot (a.length+B.length) (dP vb a.length vh i) (mM k)=dP vb a.length vh i k from LW (oB U.o) _));have bw:=Hi Q;have q2:(i:Int)<(N:Int):=oO;obtain⟨tl,bk⟩:=nm ts.length;rw[bk]at x0 x2 be ak al R bi;clear T hp hq bd ag ah bf bg bh ai aj Q bk;go_wp2;go_roundw
       case rel=> refine⟨i+1,_,_,oO,by go_num,ak.o,by rw[aQ];exact y.o,bj.o,al.o,R.o,F.o.trans bi.o⟩
       case measure=>exact mI
     . obtain rfl:N=i:=oO;go_wp2;go_roundw
       case rel=>exact⟨k+1,vs,d,oO,by go_num,l.o,y.o,C.o.next (by rw[l.o.len,y.o];exact aV _),F.o⟩
       case measure=>exact mI
  . obtain rfl:n=k:=oO;go_wp2;go_ret;have bq:w.heap.size<=g:=oC x.o H.o.size;exact⟨N,g,vs,d,aw.o.symm,rfl,l.o.mono bq,y.o,by rw[U.o];exact C.o,M.o⟩
end Go.Proofs.YtfgclhpgdanmfaaGreatDoor
