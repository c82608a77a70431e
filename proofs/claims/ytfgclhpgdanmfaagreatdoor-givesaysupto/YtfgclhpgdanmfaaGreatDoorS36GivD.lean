import Derived.Test.YtfgclhpgdanmfaaGreatDoorS35GivA
namespace Go.Proofs.YtfgclhpgdanmfaaGreatDoor
set_option linter.defProp false
open Go.RowKit
open Go.Proofs.Tryz
set_option linter.unusedSimpArgs false
set_option linter.unusedVariables false
set_option maxHeartbeats 8000000
set_option maxRecDepth 1000000
variable{w w':Vz}{B K K' g k n:Nat}{t:Vr}{l:Vy}{v:Ac}{us:Ah}
def XT:(prog.info? 4).map (fun i=>(i.zero,i.size,i.bytes))=some (some (.bool false),1,1):=kK
def XS:(prog.info? 3).map (fun i=>(i.zero,i.size,i.bytes))=some (some (.int .i64 0),1,8):=kK
def oK(l:List Bool):List Value:=l.map Value.bool
def XR(n:Nat):madeCells #[Value.bool false] n=(oK (List.replicate n false)).toArray:=by
 unfold madeCells oK;apply Array.ext
 . simp
 . intro i a b
   simp[QA]
def XQ(n:Nat)(a:n<=1000)(w:Vz):
 (Instr.makeSlice 181 (.int .i64 n) (.int .i64 n)).run prog w=.ok (.slice (some ⟨w.heap.size,0,none⟩) n n) (w.alloc (.cells (oK (List.replicate n false)).toArray 4)):=by
 rw[<-XR];exact Bo 181 4 (.bool false) 1 underlying181 XT rfl .i64 .i64 n oO oO w
def SB.Bc{l:List Bool}(h:SB w g t (oK l).toArray)(i:Nat):w.cell? ⟨g,i,none⟩=(l[i]?).map Value.bool:=by rw[h.cell];simp[oK]
abbrev IG(w:Vz)(B:Nat)(v:Ac)(l:Vy):Prop:=Grow w B 3 1 zC v l.length (l.map (fun n:Nat=>Value.int .i64 n))
def IG.app{nb c:Nat}{x:Nat}(h:IG w B v l)(k:w.cell? ⟨nb,0,none⟩=some (.int .i64 x))(y:l.length<=1000)(hB:B<=w.heap.size)(ty:Vr):
 ∃b w',sQ prog 133 ty v (.slice (some ⟨nb,0,none⟩) 1 c) w=.ok b w'/\IG w' B b (l++ [x])/\Below B w w'/\w.grownBy w' v.ownBlock:=by
 obtain⟨i,m,n⟩:=aZ.1 XS;injection n with o d
 injection d with d p
 obtain⟨b,w',q,r,f,_⟩:=Grow.app h (P:=prog) (t:=133) (ty:=ty) underlying133 m o d p rfl dD (fun u a=>⟨_,by simpa [Value.cells] using a⟩) ⟨nb,0,none⟩ 1 c [.int .i64 x] rfl (fun j u e=>by
  match j,e with
  |0,e=>
   obtain rfl:=aD e
   exact k) (fun u a=>by obtain rfl:=bE.1 a;rfl) (fun u a=>by obtain rfl:=bE.1 a;exact⟨_,rfl⟩) oO dD hB
 refine⟨b,w',q,?_,GB f (fun g s=>(h.lt s).1) hB,f⟩
 show Grow _ _ _ _ _ _ (l++ [x]).length ((l++ [x]).map _)
 rw[aS,io,dH];exact r
def IG.slice(h:IG w B v l):∃a cap,v=.slice a l.length cap/\mA w a (l.map (fun n:Nat=>Value.int .i64 n)):=by obtain⟨a,cap,e,_,b,_⟩:=qt h;exact⟨a,cap,e,b⟩
def XP{b:Nat}{C:Vw}{row:Option Nat}(h:SB w b t C)(c:w.grownBy w' row)(a:some b≠row):SB w' b t C:=by have hl:=h.lt;unfold SB at h ⊢;rw[c.block b hl a];exact h
def hO(vh:Vy)(w:Nat):Bool:=!(vh.contains w)
def XO{vh:Vy}{r:Nat}(b:vh[k]?=some r)(c:r<n):((List.range n).map (fun w=>(vh.take k).contains w)).set r true=(List.range n).map (fun w=>(vh.take (k+1)).contains w):=by
 apply fK;intro i;rw[yM,jU,b];by_cases a:r=i
 . subst a
   simp[c]
 .
  rw[aH a];rcases bB i n with h|h
  . simp[gM h,a,gH a]
  . simp[aO (by simpa using h:(List.range n).length<=i)]
def Xd(a1 a2 a3:Vx)(c1 c2 c3 nb N:Nat)(t:Ad)(b:Ak)(vh:Vy)(w:Vz)(hf:eO H3.cells w a3 c3 b)(n1:t.length<=10)(n3:b.length<=20)(hl:vh.length=b.length)(hv:∀(i:Nat)(h:H3)(r:Nat),b[i]?=some h->vh[i]?=some r->uP t.length h r)(hN:2*t.length=N):
 Calls prog 91 #[.agg #[.slice a1 t.length c1,.slice a2 nb c2,.slice a3 b.length c3]] w fun e w'=>∃v,e=.returned v/\IG w' w.heap.size v (Giv.frs (hO vh) N)/\Below w.heap.size w w':=by
 obtain⟨V,hV⟩:=nm (w.alloc (.cells #[.slice a1 t.length c1,.slice a2 nb c2,.slice a3 b.length c3] 26));have u:Bl w V:=by rw[<-hV];exact(ac _ _).alloc lZ _
 have I:=Uc hV;obtain⟨HF,J,K,ag,HL,HN,L⟩:=If (hf.below u) u hV hv hl hN (Fv a1 a2 a3 c1 c2 c3 t.length nb b.length V n1);have au:N<=20:=oO;clear hf u hV hv hl hN;go_enter func91,ntmps91;go_wp2_with fail;rw[K.o];go_fit L.o;rintro e w1 ⟨rfl,g⟩;have eN:2*(t.length:Int)=(N:Int):=oB HN.o;rw[eN];have M:=XQ N oO w1;obtain⟨V1,l⟩:=nm (w1.alloc (.cells (oK (List.replicate N false)).toArray 4));have d:Bl w1 V1:=by rw[<-l];exact(ac _ _).alloc lZ _
 have P:=Uc l;have Q:=Hi (g.trans (d.mono g.size));have k2:=(I.o.below Q.o I.o.lt).cell 2;simp only[aK,aI,aM]at k2;obtain⟨G,hG⟩:=nm w1.heap.size;have ah:O (V.heap.size<=G):=Hi (by rw[<-hG];exact g.size);rw[hG]at P M;rw[l]at M;clear g d l L K hG eN;go_wp2_with fail;go_loopw [14] (fun y wr=>∃k:Nat,k<=b.length/\y=.int .i64 k/\SB wr G 4 (oK ((List.range N).map (fun x=>(vh.take k).contains x))).toArray/\Below V.heap.size V wr) (fun y _=>b.length - (intOf y).toNat)
 case atStart=>
  refine⟨0,oO,rfl,?_,Q.o⟩;have e:(List.range N).map (fun x=>(vh.take 0).contains x)=List.replicate N false:=by
   apply fK;intro i;rw[aP,fW];rcases bB i N with h|h
   . rw[gM h,aN h]
     rfl
   . rw[aH oO,aO (sU h)]
     rfl
  rw[e];exact P.o
 case round=>
  obtain⟨k,hk,rfl,a,hb⟩:=hrel;obtain⟨z,HB⟩:=Ia a hb;clear a hb;by_cases ai:k<b.length
  .
   obtain⟨h,hh⟩:∃h,b[k]?=some h:=⟨b[k],gE ai⟩;obtain⟨r,hr⟩:∃r,vh[k]?=some r:=⟨vh[k]'(oB HL.o),gE (oB HL.o)⟩;obtain⟨j,hj,av,A⟩:=(ag.o k h r hh hr).ex;obtain⟨aw,ax,rfl,ay,d0,d1,d2⟩:=(HF.o.below HB.o).sJ hh;rw[hj]at d0;obtain⟨X,hX⟩:=nm (wr.alloc (.cells #[.int .i64 j,.int .i64 h.w,.string h.q] 74));have B:Bl wr X:=by rw[<-hX];exact(ac _ _).alloc lZ _
   obtain⟨R,S,T,aj⟩:=Ic (Iy j h.w h.q X oO) (HB.o.trans (B.mono HB.o.size)) (z.o.below B z.o.lt) hX;have D:O (r<N):=Hi (by have:=HN.o;rw[A];split<;>omega);have ak:O ((if h.w=1 then 2*(j:Int) else 2*(j:Int)+1)=(r:Int)):=Hi (by rw[A];split<;>simp);have HR:=Hi hr;have q1:((k:Int)<(b.length:Int)):=oO;clear hh hr hj A hX B;go_wp2_with fail;rw[aj.o];go_fit R.o;rintro e w2 ⟨rfl,d⟩;rw[ak.o];have m:=T.o.below d T.o.lt;have U:=m.Bc r;have f0:=m.free r;rw[aP,gM D.o,lu,lu]at U;have q2:((r:Int)<(N:Int)):=oB D.o;obtain⟨al,am⟩:=Ia m (S.o.trans (d.mono S.o.size));clear m d R d0 d1 d2;go_wp2;go_roundw
   case rel=>
    refine⟨k+1,oO,by go_num,?_,fU am.o ((cX G w2).setCell r _) ah.o⟩;have E:=al.o.set r (.bool true);rw[aU]at E;have e:(oK ((List.range N).map (fun x=>(vh.take k).contains x))).set r (.bool true)=oK ((List.range N).map (fun x=>(vh.take (k+1)).contains x)):=by rw[<-XO HR.o D.o];unfold oK;rw[iT]
    rw[e]at E;exact E
   case measure=>exact mI
  .
   have e:k=b.length:=oO;have a:=z.o;rw[e,<-HL.o,dB]at a;have an:=Hi a;clear a e;go_wp2_with fail;go_loopw [6,25] (fun ov y wq=>∃i:Nat,i<=N/\y=.int .i64 i/\IG wq w.heap.size ov (Giv.frs (hO vh) i)/\SB wq G 4 (oK ((List.range N).map (fun x=>vh.contains x))).toArray/\Below w.heap.size w wq) (fun _ y _=>N - (intOf y).toNat)
   case atStart=>exact⟨0,oO,rfl,pA _ _ _ _ _,an.o,J.o.trans (HB.o.mono J.o.size)⟩
   case round=>
    obtain⟨i,hi,rfl,F,a,hb⟩:=hrel;obtain⟨n,p,s⟩:=Ib F a hb;obtain⟨oa,oc,ao,_⟩:=F.slice;subst ao;clear F a hb;by_cases W:i<N
    .
     have U:=p.o.Bc i;rw[aP,gM W,lu,lu]at U;have q1:((i:Int)<(N:Int)):=oO;have Z:=Hi (Giv.frs_succ (hO vh) i);cases hc:vh.contains i with
     |true=>
      rw[hc]at U;have HE:O (Giv.frs (hO vh) (i+1)=Giv.frs (hO vh) i):=Hi (by rw[Z.o,aH (by unfold hO;rw[hc];decide)]);clear hc;go_wp2;go_roundw
      case rel=>exact⟨i+1,oO,by go_num,by rw[HE.o];exact n.o,p.o,s.o⟩
      case measure=>exact mI
     |false=>
      rw[hc]at U;have HE:O (Giv.frs (hO vh) (i+1)=Giv.frs (hO vh) i++ [i]):=Hi (by rw[Z.o,aN (by unfold hO;rw[hc];decide)]);obtain⟨Y,hY⟩:=nm (wr.alloc (.cells #[.int .i64 i] 3));have f:Bl wr Y:=by rw[<-hY];exact(ac _ _).alloc lZ _
      have aa:Y.cell? ⟨wr.heap.size,0,none⟩=some (.int .i64 i):=by rw[<-hY];exact yA wr _ _
      have H:=s.o.trans (f.mono s.o.size);obtain⟨v',w',ab,ad,ae,af⟩:=IG.app (kA n.o f) (x:=i) (nb:=wr.heap.size) (c:=1) aa (aE (Giv.frs_len _ _) oO) H.size 133;have ap:=Hi (by
       have E:=p.o.below f p.o.lt;exact XP E af (fun e=>by
        obtain⟨C,h2,_⟩:=Grow.sb (kA n.o f) e.symm;unfold SB at E h2;rw[E]at h2;have h3:=aD h2;injection h3 with _ h4
        exact absurd h4 dD))
      rw[<-hY]at ab;obtain⟨aq,ar⟩:=Ia ad (H.trans ae);clear hc hY f aa ad ae H af;go_wp2;go_roundw
      case rel=>exact⟨i+1,oO,by go_num,by rw[HE.o];exact aq.o,ap.o,ar.o⟩
      case measure=>exact mI
    . obtain rfl:i=N:=oO;go_wp2;go_ret;exact⟨_,rfl,n.o,s.o⟩
def jC(vh:Vy)(hb:AO):Nat->cW
 |0,_=>0
 |k+1,w=>if vh[k]?=some w then hb k else jC vh hb k w
structure RB (w:Vz) (g n K:Nat) (x:cW) (us:Ah):Prop where
 blk:iQ w g us
 len:us.length=n
 val:∀(i:Nat)(t:FE),us[i]?=some t->t.q=x i/\t.k<=K
def RB.below{x:cW}(h:RB w g n K x us)(hb:Bl w w'):RB w' g n K x us:=⟨h.blk.below hb,h.len,h.val⟩
def RB.new(w:Vz)(n K:Nat)(C:Vw)(hC:C=((List.replicate n FE.zero).flatMap FE.cells).toArray)(b:0<K):RB (w.alloc (.cells C 99)) w.heap.size n K (fun _=>0) (List.replicate n FE.zero):=
 ⟨DL w n C hC,jF,fun i t a=>by
   rw[fW]at a
   split at a
   . cases a
     exact⟨rfl,b⟩
   . cases a⟩
def RB.set{x:cW}{a b c:Ac}{q:Rat}(h:RB w g n K x us)(hk:k<n)(f:FF q K (.agg #[a,b,c]) w)(y:cW)(j:∀i,y i=if i=k then q else x i):
 RB (((w.setCell ⟨g,k*3,none⟩ a).setCell ⟨g,k*3+1,none⟩ b).setCell ⟨g,k*3+2,none⟩ c) g n K y (us.set k ⟨a,b,c,q,K⟩):=by
 refine⟨h.blk.set (e:=⟨a,b,c,q,K⟩) (by rw[h.len];exact hk) f,by rw[aQ,h.len],fun i t d=>?_⟩;rw[yM]at d;rw[j i]
 split at d
 .
  rename_i e;subst e
  split at d
  . cases d
    exact⟨by rw[aN rfl],aV _⟩
  . cases d
 . rename_i e;rw[aH (fun h=>e h.symm)];exact h.val i t d
def RB.at{x:cW}(h:RB w g n K x us)(hk:k<n):∃a b c,w.cell? ⟨g,k*3,none⟩=some a/\w.cell? ⟨g,k*3+1,none⟩=some b/\w.cell? ⟨g,k*3+2,none⟩=some c/\FF (x k) K (.agg #[a,b,c]) w:=by obtain⟨t,d⟩:∃t,us[k]?=some t:=⟨us[k]'(oB h.len),gE (oB h.len)⟩;obtain⟨b,o,e,_,t0,t1,t2⟩:=h.blk.row.at d;cases e;simp only[cC]at t0 t1 t2;have f:=h.val k t d;refine⟨_,_,_,t0,t1,t2,?_⟩;rw[<-f.1];exact zF (h.blk.row.get d) f.2
def RB.cells{x:cW}{t:FE}(h:RB w g n K x us)(a:us[k]?=some t):w.cell? ⟨g,k*3,none⟩=some t.x/\w.cell? ⟨g,k*3+1,none⟩=some t.y/\w.cell? ⟨g,k*3+2,none⟩=some t.z:=by obtain⟨b,o,e,_,t0,t1,t2⟩:=h.blk.row.at a;cases e;simp only[cC]at t0 t1 t2;exact⟨t0,t1,t2⟩
def RB.fe{x:cW}{t:FE}(h:RB w g n K x us)(a:us[k]?=some t):FF (x k) K (.agg #[t.x,t.y,t.z]) w:=by have b:=h.val k t a;rw[<-b.1];exact zF (h.blk.row.get a) b.2
def RB.get{x:cW}(h:RB w g n K x us)(hk:k<n):∃t,us[k]?=some t:=⟨us[k]'(oB h.len),gE (oB h.len)⟩
def RB.only{a n':Nat}{x y:cW}{vs:Ah}(h:RB w g n K x us)(c:RB w a n' K' y vs)(d:cE a w w')(b:g≠a):RB w' g n K x us:=⟨h.blk.other c.blk d b,h.len,h.val⟩
def RB.mono{x:cW}(h:RB w g n K x us)(b:K<=K'):RB w g n K' x us:=⟨h.blk,h.len,fun i t a=>⟨(h.val i t a).1,aE (h.val i t a).2 b⟩⟩
def RB.eq{x y:cW}(h:RB w g n K x us)(e:∀i,i<n->x i=y i):RB w g n K y us:=⟨h.blk,h.len,fun i t a=>⟨(h.val i t a).1.trans (e i (oC ((gZ a).1) h.len)),(h.val i t a).2⟩⟩
def Xc(a1 a2 a3:Vx)(c1 c2 c3 nb N:Nat)(t:Ad)(a:Ak)(vh:Vy)(u:AO)(w:Vz)(hg:jq w)(hf:eO H3.cells w a3 c3 a)(n1:t.length<=10)(n3:a.length<=20)(hl:vh.length=a.length)(hv:∀(i:Nat)(h:H3)(r:Nat),a[i]?=some h->vh[i]?=some r->uP t.length h r)(hq:∀(i:Nat)(h:H3),a[i]?=some h->il h.q.data.toList (u i)/\h.q.size<=1048576)(hN:2*t.length=N):
 Calls prog 90 #[.agg #[.slice a1 t.length c1,.slice a2 nb c2,.slice a3 a.length c3]] w fun e w'=>∃g us,e=.returned (.slice (some ⟨g,0,none⟩) N N)/\w.heap.size<=g/\RB w' g N 4194305 (jC vh u a.length) us/\Below w.heap.size w w':=by
 obtain⟨V,hV⟩:=nm (w.alloc (.cells #[.slice a1 t.length c1,.slice a2 nb c2,.slice a3 a.length c3] 26));have l:Bl w V:=by rw[<-hV];exact(ac _ _).alloc lZ _
 have I:=Uc hV;obtain⟨HF,HG,v,J,ab,HL,HN,HQ,L⟩:=Ih (hf.below l) (hg.below l) l hV hv hl hN hq (Fv a1 a2 a3 c1 c2 c3 t.length nb a.length V n1);have am:N<=20:=oO;clear hf l hV hv hl hN hg hq;go_enter func90,ntmps90;go_wp2_with fail;rw[J.o];go_fit L.o;rintro e w1 ⟨rfl,m⟩;have eN:2*(t.length:Int)=(N:Int):=oB HN.o;rw[eN];have x:=B3 N oO w1;obtain⟨MC,y⟩:=nm (((List.replicate N FE.zero).flatMap FE.cells).toArray);rw[y]at x;obtain⟨V1,n⟩:=nm (w1.alloc (.cells MC 99));have M:Bl w1 V1:=by rw[<-n];exact(ac _ _).alloc lZ _
 have P:O (RB V1 w1.heap.size N 4194305 (fun _=>0) (List.replicate N FE.zero)):=Hi (by rw[<-n];exact RB.new w1 N 4194305 MC y.symm dD);have Q:=Hi (m.trans (M.mono m.size));have k2:=(I.o.below Q.o I.o.lt).cell 2;simp only[aK,aI,aM]at k2;obtain⟨G,hG⟩:=nm w1.heap.size;have R:O (V.heap.size<=G):=Hi (by rw[<-hG];exact m.size);rw[hG]at P x;rw[n]at x;clear m M n L J hG eN y;go_wp2_with fail;go_loopw [12] (fun iv wr=>∃(k:Nat)(us:Ah),k<=a.length/\iv=.int .i64 k/\RB wr G N 4194305 (jC vh u k) us/\Below V.heap.size V wr) (fun iv _=>a.length - (intOf iv).toNat)
 case atStart=>exact⟨0,_,oO,rfl,P.o,Q.o⟩
 case round=>
  obtain⟨k,us,hk,rfl,S,T⟩:=hrel;obtain⟨U,HB⟩:=Ia S T;clear S T;by_cases ad:k<a.length
  .
   obtain⟨h,hh⟩:∃h,a[k]?=some h:=⟨a[k],gE ad⟩;obtain⟨r,hr⟩:∃r,vh[k]?=some r:=⟨vh[k]'(oB HL.o),gE (oB HL.o)⟩;obtain⟨j,hj,ao,z⟩:=(ab.o k h r hh hr).ex;obtain⟨ap,aq,rfl,ar,d0,d1,d2⟩:=(HF.o.below HB.o).sJ hh;rw[hj]at d0;have W:=Hi (HQ.o k h hh);obtain⟨X,hX⟩:=nm (wr.alloc (.cells #[.int .i64 j,.int .i64 h.w,.string h.q] 74));have A:Bl wr X:=by rw[<-hX];exact(ac _ _).alloc lZ _
   have B:=Uc hX;have HJ:O (j<=10):=Hi oO;have Y:=Hi hX;have C:O (r<N):=Hi (by have:=HN.o;rw[z];split<;>omega);have ae:O ((if h.w=1 then 2*(j:Int) else 2*(j:Int)+1)=(r:Int)):=Hi (by rw[z];split<;>simp);have HR:=Hi hr;have af:O (∀w,Calls prog 46 #[.agg #[.int .i64 j,.int .i64 h.w,.string h.q]] w (cS w (Is (.int .i64 r)))):=Hi (fun w=>(Iy j h.w h.q w HJ.o).mono (fun e w' h=>⟨_,h.1,h.2,by rw[ae.o];rfl⟩));obtain⟨D,Z⟩:=Ia (HB.o.trans (A.mono HB.o.size)) (U.o.below A);have q1:((k:Int)<(a.length:Int)):=oO;clear hh hr hj z hX A;go_wp2_with fail;rw[Y.o];have p:Bl X X.drew:=bR.drew;have d:=B.o.below p B.o.lt;obtain⟨E,F,H⟩:=Ib (d.cell 0) (d.cell 1) (d.cell 2);simp only[aK,aI,aM]at E F H;obtain⟨aa,s,ag⟩:=Ib d.lt (D.o.trans (p.mono D.o.size)) (Z.o.below p);clear p d Y B Z D d0 d1 d2;generalize hR0:wr.heap.size=R0 at*;have an:=Hi hR0;clear hR0;have q2:((r:Int)<(N:Int)):=oB C.o;refine ou 7 (fun j=>some (16+j)) ?_;refine cV [] ?_;refine gJ (c:=?_) [] (fun w hb=>?_) ?_;rotate_left
   . intro K f;obtain⟨e0,e1,e2⟩:=Jb hb aa.o E.o F.o H.o;go_simp;exact f
   refine fP (φ:=Is (.int .i64 r)) [1] ((fun _ _ _ _ h=>h)) (fun w hb=>?_) ?_
   . intro K f;go_simp;exact fB (af.o w) f
   refine cV [] ?_;refine gJ (c:=?_) [3] (fun w hb=>?_) ?_;rotate_left
   . intro K f;obtain⟨e0,e1,e2⟩:=Jb hb aa.o E.o F.o H.o;go_simp;exact f
   refine fP (φ:=FF (u k) 4194305) [4] (od _ _) (fun w hb=>?_) ?_
   . intro K f;go_simp;exact fB (Mb (HG.o.below (s.o.trans (hb.mono s.o.size))) W.o.1 W.o.2 dD dD) f
   refine cV [0,2] ?_;refine qr aL (by rfl) (by rfl) kK (fun x2 hb=>?_);simp only[nE,cH,bO,sR,Act.put,aU,cN,bX,Nat.reduceAdd,Nat.reduceBEq,gO,fS];intro v5 h5 K f;obtain⟨x',y',z',rfl⟩:=h5.oe;obtain⟨o1,o2,o3⟩:=h5.1.one;have ah:=ns prog o1;have ai:=ns prog o2;have aj:=ns prog o3;have b:=ag.o.below hb;obtain⟨y0,y1,y2,c0,c1,c2,_⟩:=b.at C.o;have f0:=b.blk.blk.free (r*3);have f1:=b.blk.blk.free (r*3+1);have f2:=b.blk.blk.free (r*3+2);have ak:=Hi (b.set C.o h5 (jC vh u (k+1)) (fun i=>by
    show (if vh[k]?=some i then u k else jC vh u k i)=_
    rw[HR.o];by_cases e:i=r
    . rw[aN (by rw[e]),aN e]
    . rw[aH (fun h=>e (aD h).symm),aH e]))
   have al:=Hi (s.o.trans (hb.mono s.o.size));clear o1 o2 o3 b h5 hb;go_simp;refine f _ _ ?_;clear f c0 c1 c2 f0 f1 f2 ah ai aj;go_wp2;go_roundw
   case rel=>exact⟨k+1,_,oO,by go_num,ak.o,fU al.o ((((cX G x2).setCell (r*3) x').setCell (r*3+1) y').setCell (r*3+2) z') R.o⟩
   case measure=>exact mI
  . obtain rfl:k=a.length:=oO;go_wp2;go_ret;exact⟨G,us,rfl,aE v.o.size R.o,U.o,v.o.trans (HB.o.mono v.o.size)⟩
def RB.F1{i:Nat}{x:cW}{k:AM}{z:Int}(h:RB w g n K x us)(f:w.cell? ⟨g,i,none⟩=some (.int k z)):False:=by rw[h.blk.blk.cell,aK]at f;obtain⟨t,l,j⟩:=mp.1 (mO f);obtain⟨neg,a,n',c,b,m,d,e,_⟩:=(h.blk.ts t l).1;simp only[qY,rB,iV,jE]at e;simp only[FE.cells,e.1,e.2.1,e.2.2,aY,dI,ji]at j;rcases j with h|h|h<;>cases h
def mA.F7{a:Vx}{x:cW}(h:mA w a (l.map (fun n:Nat=>Value.int .i64 n)))(o:RB w g n K x us)(i:cE g w w'):mA w' a (l.map (fun n:Nat=>Value.int .i64 n)):=⟨fun j u c=>by
 obtain⟨b,d,e,hb,k⟩:=h.cell j u c;have f:b≠g:=fun e=>by subst e;rw[aP]at c;obtain⟨m,_,rfl⟩:=aZ.1 c;exact o.F1 k
 refine⟨b,d,e,aF hb i.size,?_⟩;rw[<-k]
 exact bJ (i.block b hb f)⟩
def rM(at_:Vy)(y h0:cW):Nat->cW
 |0=>h0
 |i+1=>fun r=>if r=at_.getD i 0 then y i else rM at_ y h0 i r
theorem Lh{a:Vy}{y b:cW}{r:Nat}(c:¬r∈ a):∀i,i<=a.length->rM a y b i r=b r
 |0,_=>rfl
 |i+1,hi=>by
  show (if r=a.getD i 0 then y i else rM a y b i r)=_
  rw[aH (fun e=>c (by
   rw[e,aC,gE oO]
   exact kI _)),Lh c i oO]
theorem Fz{a:Vy}{y b:cW}(c:a.Nodup){j:Nat}:∀i,i<=a.length->j<i->rM a y b i (a.getD j 0)=y j
 |0,_,hj=>oO
 |i+1,hi,hj=>by
  show (if a.getD j 0=a.getD i 0 then y i else rM a y b i (a.getD j 0))=_
  by_cases e:j=i
  . rw[e,aN rfl]
  . rw[aH (fun h=>e (by
     simp only[aC,gE (show j<a.length by omega),gE (show i<a.length by omega),pM]at h
     exact(List.getElem_inj c).1 h)),Fz c i oO oO]
def yZ(B:Nat):Fact:=fun v w=>∃b,v=.pointer (some ⟨b,0,none⟩)/\B<=b/\SB w b 99 #[.bool false,.slice none 0 0,.slice none 0 0]
def yZ.eL(B:Nat):mP (yZ B):=fun _ _ _ hb ⟨b,e,c,a⟩=>⟨b,e,c,a.below hb a.lt⟩
def EH(p:Al)(v:cW):Rat:=p.2.2.1*(v (2*p.2.1) - v (2*p.1))+p.2.2.2*(v (2*p.2.1+1) - v (2*p.1+1))
def fV(vb:Aa)(x:cW):cW:=fun i=>EH (vb.getD i (0,0,0,0)) x
def i9(x:cW)(k:Nat):cW:=fun i=>if i<k then x i else 0
def Dg(j r:Nat)(w:Vz)(a:j<=10)(b:2*j=r):Calls prog 88 #[.int .i64 j] w (cS w (Is (.int .i64 r))):=
 (Fu j w a).mono fun e w' ⟨c,d⟩=>⟨_,c,by rw[d];exact ac _ _,by rw[<-b];simp[Is]⟩
def Df(j r:Nat)(w:Vz)(a:j<=10)(b:2*j+1=r):Calls prog 89 #[.int .i64 j] w (cS w (Is (.int .i64 r))):=
 (Ft j w a).mono fun e w' ⟨c,d⟩=>⟨_,c,by rw[d];exact ac _ _,by rw[<-b];simp[Is]⟩
def Xb(a1 a2 a3:Vx)(c1 c2 c3 nh gm N u KS:Nat)(js:Ad)(y:Ap)(vb:Aa)(x:cW)(ms:Ah)(w:Vz)(hg:jq w)(hj:eO S2.cells w a1 c1 js)(hf:eO B6.cells w a2 c2 y)(n1:js.length<=10)(n2:y.length<=24)(hl:vb.length=y.length)(hv:∀(i:Nat)(b:B6)(p:Al),y[i]?=some b->vb[i]?=some p->wL 1048576 js b p)(hm:RB w gm N u x ms)(hN:2*js.length=N)(d:KS=2*(8388611+(2*u+1))+1)(du:u<=1000000000):
 Calls prog 95 #[.agg #[.slice a1 js.length c1,.slice a2 y.length c2,.slice a3 nh c3],.slice (some ⟨gm,0,none⟩) N N] w fun e w'=>∃g us,e=.returned (.slice (some ⟨g,0,none⟩) y.length y.length)/\w.heap.size<=g/\RB w' g y.length KS (i9 (fV vb x) y.length) us/\Below w.heap.size w w':=by
 obtain⟨V,hV⟩:=nm (w.alloc (.cells #[.slice a1 js.length c1,.slice a2 y.length c2,.slice a3 nh c3] 26));have H:Bl w V:=by rw[<-hV];exact(ac _ _).alloc lZ _
 have ag:=B3 y.length oO V;obtain⟨MC,b0⟩:=nm (((List.replicate y.length FE.zero).flatMap FE.cells).toArray);rw[b0]at ag;obtain⟨V1,ah⟩:=nm (V.alloc (.cells MC 99));have b1:Bl V V1:=by rw[<-ah];exact(ac _ _).alloc lZ _
 have b3:O (RB V1 V.heap.size y.length KS (fun _=>0) (List.replicate y.length FE.zero)):=Hi (by rw[<-ah];exact RB.new V y.length KS MC b0.symm oO);have ci:=Hi (H.trans (b1.mono H.size));have ai:SB V w.heap.size 26 #[.slice a1 js.length c1,.slice a2 y.length c2,.slice a3 nh c3]:=by rw[<-hV];exact cK w _ _
 have cj:=Hi (ai.below b1 ai.lt);have k1:=ai.cell 1;have dv:=cj.o.cell 1;simp only[aK,aI,aM]at k1 dv;obtain⟨HG,HJ,HF,HM,HV,HL,HN,HK,dw⟩:=Ih hg hj hf (hm.below ci.o) hv hl hN (cZ d du) n1;have dz:=Hi hm.blk.blk.lt;obtain⟨G,hG⟩:=nm V.heap.size;have az:O (w.heap.size<G):=Hi (by rw[<-hG];exact ai.lt);have eo:O (G<V1.heap.size):=Hi (by rw[<-hG];exact b3.o.blk.blk.lt);rw[hG]at b3 ag;obtain⟨ep,en⟩:=Ia hV ah;rw[ah]at ag;rw[<-hV]at ag k1;clear H hV b1 ah ai b0 hG hg hj hf hv hl hm hN d;go_enter func95,ntmps95;go_wp2_with fail;clear ag k1;go_loopw [19] (fun iv wr=>∃(k:Nat)(us:Ah),k<=y.length/\iv=.int .i64 k/\RB wr G y.length KS (i9 (fV vb x) k) us/\SB wr w.heap.size 26 #[.slice a1 js.length c1,.slice a2 y.length c2,.slice a3 nh c3]/\RB wr gm N u x ms/\Below w.heap.size w wr) (fun iv _=>y.length - (intOf iv).toNat)
 case atStart=>
  refine⟨0,List.replicate y.length FE.zero,oO,rfl,?_,cj.o,HM.o,ci.o⟩;have e:i9 (fV vb x) 0=fun _=>0:=funext fun i=>by unfold i9;rw[aH oO]
  rw[e];exact b3.o
 case round=>
  obtain⟨k,us,hk,rfl,ck,aj,cl,Q⟩:=hrel;obtain⟨cm,a0,ea,HB⟩:=Ic ck aj cl Q;clear ck aj cl Q;by_cases b4:k<y.length
  .
   obtain⟨b,b5⟩:∃b,y[k]?=some b:=⟨y[k],gE b4⟩;obtain⟨p,hp⟩:∃p,vb[k]?=some p:=⟨vb[k]'(oB HL.o),gE (oB HL.o)⟩;have H:=HV.o k b p b5 hp;obtain⟨s,t,x1,y1,x2,y2,e1,e2,z1,z2,z3,z4,q1,q2,q3,q4,ex,ey⟩:=H.ex;obtain⟨bb,bo,rfl,eq,d0,d1,d2,d3,d4,d5⟩:=(HF.o.below HB.o).bar b5;obtain⟨A,hA⟩:=nm p.1;obtain⟨B,hB⟩:=nm p.2.1;have a4:=H.a;have Q:=H.b;rw[hA]at a4 e1;rw[hB]at Q e2;have eb:=(gZ e1).1;have ec:=(gZ e2).1;have cn:O (A<=10):=Hi oO;have cp:O (B<=10):=Hi oO;obtain⟨X,hX⟩:=nm (wr.alloc (.cells #[.int .i64 b.a,.int .i64 b.b,.string b.c,.string b.e,.string b.l,.string b.m] 72));have a5:Bl wr X:=by rw[<-hX];exact(ac _ _).alloc lZ _
   have cq:SB X wr.heap.size 72 #[.int .i64 b.a,.int .i64 b.b,.string b.c,.string b.e,.string b.l,.string b.m]:=by rw[<-hX];exact cK wr _ _
   have a6:=Hi (HB.o.trans (a5.mono HB.o.size));have b6:=Hi (Qc a1 (some ⟨bb,bo,none⟩) a3 c1 c2 c3 y.length nh A B 1048576 js b s t X (HG.o.below a6.o) (HJ.o.below a6.o) a4 Q e1 e2 dw.o z1 z2 z3 z4 dD q1 q2 q3 q4);rw[<-ex,<-ey]at b6;have kf:=a0.o.below a5 a0.o.lt;have x0:=kf.cell 0;have b7:=kf.cell 1;have b8:=kf.cell 2;simp only[aK,aI,aM]at x0 b7 b8;rw[<-hX]at x0 b7 b8;obtain⟨b9,cr⟩:=Ia cq hX;have q5:((k:Int)<(y.length:Int)):=oO;obtain⟨ed,cs,a7⟩:=Ib hp a5 (cZ hA (cZ hB (cZ a4 Q)));have a8:O (2*A+1<N/\2*B+1<N):=Hi (oB HN.o);clear b5 hp H e1 e2 z1 z2 z3 z4 q1 q2 q3 q4 ex ey hA hB a4 Q hX a5 cq kf eb ec;go_wp2_with fail;rw[cr.o];go_fit b6.o;rintro e w1 ⟨v1,v2,v3,u1,u2,u3,rfl,U⟩;have ct:FF p.2.2.1 8388611 (.agg #[v1,v2,v3]) w1:=U.get (cU _ (bM _));have cu:FF p.2.2.2 8388611 (.agg #[u1,u2,u3]) w1:=U.get (bM _);obtain⟨HX,HY⟩:=Ia ct cu;obtain⟨⟨nx,ax,lx,cx,bx,mx,dx,ex,_⟩,_,_⟩:=ct;obtain⟨⟨ny,ay,ly,cy,b2,my,dy,ey,_⟩,_,_⟩:=cu;simp only[qY,rB,iV,jE]at ex ey;obtain⟨rfl,rfl,rfl⟩:=ex;obtain⟨rfl,rfl,rfl⟩:=ey;have cv:=Hi U.base;clear U b6 x0 b7 b8;obtain⟨V2,ak⟩:=nm ((w1.alloc (.cells #[.bool nx,.slice ax lx cx,.slice bx mx dx] 99)).alloc (.cells #[.bool ny,.slice ay ly cy,.slice b2 my dy] 99));have a9:Bl w1 V2:=by rw[<-ak];exact lN w1 _ _
   have cw:FB p.2.2.1 8388611 V2 w1.heap.size:=⟨_,_,_,by
    rw[<-ak]
    exact(cK w1 _ _).below (bR.alloc lZ _) wO,HX.o.below a9⟩
   have cz:FB p.2.2.2 8388611 V2 (w1.heap.size+1):=⟨_,_,_,by rw[<-ak];exact xE w1 _ _ _ _,HY.o.below a9⟩;have bk:=Hi ak;have ba:=cv.o.trans (a9.mono cv.o.size);obtain⟨bl,c4,c5,c6,al⟩:=Id (a6.o.trans (ba.mono a6.o.size)) (cs.o.trans (ba.mono cs.o.size)) cw cz (b9.o.below ba b9.o.lt);clear ak a9 cw cz ba HX HY;go_wp2_with fail;rw[bk.o];obtain⟨Y,hY⟩:=nm V2.drew;have ad:Bl V2 Y:=by rw[<-hY];exact(ac _ _).drew
   obtain⟨R,c7,bc⟩:=Ib hY (bl.o.trans (ad.mono bl.o.size)) (c4.o.trans (ad.mono c4.o.size));have bd:=al.o.below ad al.o.lt;obtain⟨C,D,E⟩:=Ib bd.lt (bd.cell 0) (bd.cell 1);simp only[aK,aI,aM]at D E;rw[a7.o.2.2.1]at D;rw[a7.o.2.2.2]at E;obtain⟨f,bm,bn⟩:=Ib (ea.o.below bc.o) (c5.o.below ad) (c6.o.below ad);obtain⟨I,c8⟩:∃r,2*A=r:=⟨_,rfl⟩;obtain⟨J,c9⟩:∃r,2*B=r:=⟨_,rfl⟩;obtain⟨L,da⟩:∃r,2*A+1=r:=⟨_,rfl⟩;obtain⟨M,db⟩:∃r,2*B+1=r:=⟨_,rfl⟩;obtain⟨dc,bp,dd,de⟩:=Ic c8 c9 da db;have g1:((I:Int)<(N:Int)):=oB a8.o;have g2:((J:Int)<(N:Int)):=oB a8.o;have g3:((L:Int)<(N:Int)):=oB a8.o;have g4:((M:Int)<(N:Int)):=oB a8.o;obtain⟨ta,df⟩:=f.o.get (k:=I) oO;obtain⟨tb,dg⟩:=f.o.get (k:=J) oO;obtain⟨sa,dh⟩:=f.o.get (k:=L) oO;obtain⟨sb,aj⟩:=f.o.get (k:=M) oO;obtain⟨di,bq,ae,af⟩:=Ic dh aj df dg;have dj:O (u+u<68719476000):=Hi oO;have be:=Hi (cm.o.below bc.o);clear hY ad bd c8 c9 da db df dg dh aj b9 al cr bk c5 c6;generalize bf:wr.heap.size=R0 at*;have am:=Hi bf;generalize bh:w1.heap.size=W1 at*;have dk:=Hi bh;clear bf bh;refine ou 14 (fun j=>bif j == 13 then some 10 else some (30+j)) ?_;rw[R.o];refine cV [] ?_;refine cV [] ?_;refine gJ (c:=?_) [1] (fun w hb=>?_) ?_;rotate_left
   . intro K d;obtain⟨e0,e1⟩:=Ja hb C.o D.o E.o;go_simp;exact d
   refine fP (φ:=Is (.int .i64 (J:Nat))) [2] ((fun _ _ _ _ h=>h)) (fun w hb=>?_) ?_
   . intro K d;go_simp;exact fB (Dg B J w cp.o bp.o) d
   refine cV [0,3] ?_;refine gJ (c:=?_) [4] (fun w hb=>?_) ?_;rotate_left
   . intro K d;obtain⟨d0,d1,d2⟩:=(f.o.below hb).cells af.o;go_simp;exact d
   refine cV [] ?_;refine cV [] ?_;refine gJ (c:=?_) [7] (fun w hb=>?_) ?_;rotate_left
   . intro K d;obtain⟨e0,e1⟩:=Ja hb C.o D.o E.o;go_simp;exact d
   refine fP (φ:=Is (.int .i64 (I:Nat))) [8] ((fun _ _ _ _ h=>h)) (fun w hb=>?_) ?_
   . intro K d;go_simp;exact fB (Dg A I w cn.o dc.o) d
   refine cV [6,9] ?_;refine gJ (c:=?_) [10] (fun w hb=>?_) ?_;rotate_left
   . intro K d;obtain⟨d0,d1,d2⟩:=(f.o.below hb).cells ae.o;go_simp;exact d
   refine fP (φ:=FF (x J - x I) (u+u+1)) [5,11] (od _ _) (fun w hb=>?_) ?_
   . intro K d;go_simp;exact fB (FF.qW ((f.o.below hb).fe af.o) ((f.o.below hb).fe ae.o) dj.o) d
   refine fP (φ:=yZ Y.heap.size) [] (yZ.eL _) (fun w hb=>?_) ?_
   . intro K d;go_simp;exact d _ _ (bR.alloc lZ _) ⟨_,rfl,hb.size,cK w _ _⟩
   refine qr aL (by rfl) (by rfl) kK (fun x2 hb=>?_);simp only[nE,cH,bO,sR,Act.put,aU,cN,bX,Nat.reduceAdd,Nat.reduceBEq,gO,fS];intro ee F ef cb K d;obtain⟨an,rfl,S,n⟩:=cb;obtain⟨x',y',z',rfl⟩:=F.oe;obtain⟨o1,o2,o3⟩:=F.1.one;have ao:=ns prog o1;have ap:=ns prog o2;have aq:=ns prog o3;have f0:=n.free 0;have f1:=n.free 1;have f2:=n.free 2;have c0:=n.cell 0;have c1:=n.cell 1;have c2:=n.cell 2;simp only[aK,aI,aM]at c0 c1 c2;obtain⟨Z6,hZ⟩:∃Z,((x2.setCell ⟨an,0,none⟩ x').setCell ⟨an,1,none⟩ y').setCell ⟨an,2,none⟩ z'=Z:=⟨_,rfl⟩;have bi:O (FB (x J - x I) (u+u+1) Z6 an):=Hi (by rw[<-hZ];exact FB.set ⟨_,_,_,n,Ma _⟩ F);have W:O (Bl Y Z6):=Hi (by rw[<-hZ];exact fU hb ((((cX an x2).setCell 0 x').setCell 1 y').setCell 2 z') S);obtain⟨ar,ds⟩:=Ia hZ S;clear o1 o2 o3 n F hb hZ S;go_simp;rw[ar.o];refine d _ _ ?_;clear d c0 c1 c2 f0 f1 f2 ao ap aq ar;go_wp2_with fail;obtain⟨Y7,cc⟩:=nm Z6.drew;have cd:Bl Z6 Y7:=by rw[<-cc];exact(ac _ _).drew
   have z:=W.o.trans (cd.mono W.o.size);obtain⟨br,dl,dm,dn,dp,bt,bu,dq,bv⟩:=Ih (bi.o.below cd) (ce z C.o D.o) (ce z C.o E.o) (aF C.o z.size) (f.o.below z) (bm.o.below z) (bn.o.below z) (be.o.below z) (c7.o.trans (z.mono c7.o.size));have au:=Hi ((a0.o.below (bc.o.trans (z.mono (by rw[<-am.o];exact bc.o.size))) (by rw[<-am.o];exact a0.o.lt)));clear R C D E f ae af bm bn be;have R:=Hi cc;have C:=dn;have D:=dl;have E:=dm;have f:=dp;have ae:=di;have af:=bq;clear dn dl dm dp di bq cc cd z;refine ou 14 (fun j=>bif j == 13 then some 11 else some (43+j)) ?_;rw[R.o];refine cV [] ?_;refine cV [] ?_;refine gJ (c:=?_) [1] (fun w hb=>?_) ?_;rotate_left
   . intro K d;obtain⟨e0,e1⟩:=Ja hb C.o D.o E.o;go_simp;exact d
   refine fP (φ:=Is (.int .i64 (M:Nat))) [2] ((fun _ _ _ _ h=>h)) (fun w hb=>?_) ?_
   . intro K d;go_simp;exact fB (Df B M w cp.o de.o) d
   refine cV [0,3] ?_;refine gJ (c:=?_) [4] (fun w hb=>?_) ?_;rotate_left
   . intro K d;obtain⟨d0,d1,d2⟩:=(f.o.below hb).cells af.o;go_simp;exact d
   refine cV [] ?_;refine cV [] ?_;refine gJ (c:=?_) [7] (fun w hb=>?_) ?_;rotate_left
   . intro K d;obtain⟨e0,e1⟩:=Ja hb C.o D.o E.o;go_simp;exact d
   refine fP (φ:=Is (.int .i64 (L:Nat))) [8] ((fun _ _ _ _ h=>h)) (fun w hb=>?_) ?_
   . intro K d;go_simp;exact fB (Df A L w cn.o dd.o) d
   refine cV [6,9] ?_;refine gJ (c:=?_) [10] (fun w hb=>?_) ?_;rotate_left
   . intro K d;obtain⟨d0,d1,d2⟩:=(f.o.below hb).cells ae.o;go_simp;exact d
   refine fP (φ:=FF (x M - x L) (u+u+1)) [5,11] (od _ _) (fun w hb=>?_) ?_
   . intro K d;go_simp;exact fB (FF.qW ((f.o.below hb).fe af.o) ((f.o.below hb).fe ae.o) dj.o) d
   refine fP (φ:=yZ Y7.heap.size) [] (yZ.eL _) (fun w hb=>?_) ?_
   . intro K d;go_simp;exact d _ _ (bR.alloc lZ _) ⟨_,rfl,hb.size,cK w _ _⟩
   refine qr aL (by rfl) (by rfl) kK (fun x2 hb=>?_);simp only[nE,cH,bO,sR,Act.put,aU,cN,bX,Nat.reduceAdd,Nat.reduceBEq,gO,fS];intro ee F ef cb K d;obtain⟨av,rfl,S,n⟩:=cb;obtain⟨x',y',z',rfl⟩:=F.oe;obtain⟨o1,o2,o3⟩:=F.1.one;have ao:=ns prog o1;have ap:=ns prog o2;have aq:=ns prog o3;have f0:=n.free 0;have f1:=n.free 1;have f2:=n.free 2;have c0:=n.cell 0;have c1:=n.cell 1;have c2:=n.cell 2;simp only[aK,aI,aM]at c0 c1 c2;obtain⟨Z7,hZ⟩:∃Z,((x2.setCell ⟨av,0,none⟩ x').setCell ⟨av,1,none⟩ y').setCell ⟨av,2,none⟩ z'=Z:=⟨_,rfl⟩;have aa:O (FB (x M - x L) (u+u+1) Z7 av):=Hi (by rw[<-hZ];exact FB.set ⟨_,_,_,n,Ma _⟩ F);have ab:O (Bl Y7 Z7):=Hi (by rw[<-hZ];exact fU hb ((((cX av x2).setCell 0 x').setCell 1 y').setCell 2 z') S);obtain⟨ar,dt⟩:=Ia hZ S;clear o1 o2 o3 n F hb hZ S;go_simp;rw[ar.o];refine d _ _ ?_;clear d c0 c1 c2 f0 f1 f2 ao ap aq ar;go_wp2_with fail;obtain⟨Y8,cf⟩:=nm Z7.drew;have cg:Bl Z7 Y8:=by rw[<-cf];exact(ac _ _).drew
   have P:=ab.o.trans (cg.mono ab.o.size);obtain⟨i1,i2,i3,ps,pf⟩:=aa.o.below cg;obtain⟨j1,j2,j3,rs,rf⟩:=br.o.below P;obtain⟨l1,l2,l3,ls,lf⟩:=bt.o.below P;obtain⟨m1,m2,m3,aw,mf⟩:=bu.o.below P;obtain⟨P0,P1,P2,R1,R2,R3,L0,L1,L2⟩:=Ih (ps.cell 0) (ps.cell 1) (ps.cell 2) (rs.cell 0) (rs.cell 1) (rs.cell 2) (ls.cell 0) (ls.cell 1) (ls.cell 2);obtain⟨M0,M1,M2⟩:=Ib (aw.cell 0) (aw.cell 1) (aw.cell 2);simp only[aK,aI,aM]at P0 P1 P2 R1 R2 R3 L0 L1 L2 M0 M1 M2;obtain⟨bj,PF⟩:=Ia (cZ ps.lt (cZ rs.lt (cZ ls.lt aw.lt))) pf;have eg:=Hi rf;obtain⟨LF,MF,be,bw,bz,dr⟩:=Ie lf mf (dq.o.below P) (bv.o.trans (P.mono bv.o.size)) (au.o.below P au.o.lt) (f.o.below P);have eh:O (∀{q:Rat} {w:Vz} {e:As} {w':Vz},cS w (FF q (8388611+(u+u+1)+(8388611+(u+u+1))+1)) e w'->cS w (FF q KS) e w'):=Hi (fun ⟨v,h1,h2,h3⟩=>⟨v,h1,h2,h3.mono (oB HK.o.1)⟩);have ch:O (8388611+(u+u+1)<68719476000/\8388611+(u+u+1)+(8388611+(u+u+1))<68719476000):=Hi oO;clear R;have R:=Hi cf;clear cf cg P ps rs ls aw pf rf lf mf aa br bt bu dq au f;refine ou 10 (fun j=>some (56+j)) ?_;rw[R.o];refine cV [] ?_;refine cV [] ?_;refine gJ (c:=?_) [] (fun w hb=>?_) ?_;rotate_left
   . intro K d;obtain⟨e0,e1,e2⟩:=Jb hb bj.o.2.2.1 L0.o L1.o L2.o;go_simp;exact d
   refine gJ (c:=?_) [] (fun w hb=>?_) ?_;rotate_left
   . intro K d;obtain⟨e0,e1,e2⟩:=Jb hb bj.o.2.1 R1.o R2.o R3.o;go_simp;exact d
   refine fP (φ:=FF (p.2.2.1*(x J - x I)) (8388611+(u+u+1))) [2,3] (od _ _) (fun w hb=>?_) ?_
   . intro K d;go_simp;exact fB (FF.tC (LF.o.below hb) (eg.o.below hb) ch.o.1) d
   refine gJ (c:=?_) [] (fun w hb=>?_) ?_;rotate_left
   . intro K d;obtain⟨e0,e1,e2⟩:=Jb hb bj.o.2.2.2 M0.o M1.o M2.o;go_simp;exact d
   refine gJ (c:=?_) [] (fun w hb=>?_) ?_;rotate_left
   . intro K d;obtain⟨e0,e1,e2⟩:=Jb hb bj.o.1 P0.o P1.o P2.o;go_simp;exact d
   refine fP (φ:=FF (p.2.2.2*(x M - x L)) (8388611+(u+u+1))) [5,6] (od _ _) (fun w hb=>?_) ?_
   . intro K d;go_simp;exact fB (FF.tC (MF.o.below hb) (PF.o.below hb) ch.o.1) d
   refine fP (φ:=FF (p.2.2.1*(x J - x I)+p.2.2.2*(x M - x L)) KS) [4,7] (od _ _) (fun w hb=>?_) ?_
   . intro v4 h4 v7 h7;intro K d;go_simp;exact fB ((FF.DP h4 h7 ch.o.2).mono (fun e w' h=>eh.o h)) d
   refine cV [0,1] ?_;refine qr aL (by rfl) (by rfl) kK (fun x3 hb=>?_);simp only[nE,cH,bO,sR,Act.put,aU,cN,bX,Nat.reduceAdd,Nat.reduceBEq,gO,fS];intro v4 _ v7 _ v8 h8 K d;obtain⟨x',y',z',rfl⟩:=h8.oe;obtain⟨o1,o2,o3⟩:=h8.1.one;have ao:=ns prog o1;have ap:=ns prog o2;have aq:=ns prog o3;have T:=be.o.below hb;obtain⟨y0,y1,y2,c0,c1,c2,_⟩:=T.at b4;have f0:=T.blk.blk.free (k*3);have f1:=T.blk.blk.free (k*3+1);have f2:=T.blk.blk.free (k*3+2);have ho:=(((cX G x3).setCell (k*3) x').setCell (k*3+1) y').setCell (k*3+2) z';have ei:=Hi (T.set b4 h8 (i9 (fV vb x) (k+1)) (fun i=>by
    unfold i9;by_cases e:i=k
    . subst e;rw[aN oO,aN rfl];unfold fV EH;rw[show vb.getD i (0,0,0,0)=p by rw[aC,ed.o];rfl,a7.o.1,a7.o.2.1,dd.o,de.o,dc.o,bp.o]
    . rw[aH e];by_cases e2:i<k
      . rw[aN oO,aN e2]
      . rw[aH oO,aH e2]))
   obtain⟨ej,ek,em,HO⟩:=Ic (bw.o.trans (hb.mono bw.o.size)) ((dr.o.below hb).only T ho (oC dz.o az.o)) ((bz.o.below hb bz.o.lt).only ho (oB az.o)) ho;clear o1 o2 o3 T h8 hb ho;go_simp;refine d _ _ ?_;clear d c0 c1 c2 f0 f1 f2 ao ap aq;have bf:=am.o;have bh:=dk.o;subst bf;subst bh;go_wp2;go_roundw
   case rel=>exact⟨k+1,_,oO,by go_num,ei.o,em.o,ek.o,fU ej.o HO.o (dO az.o)⟩
   case measure=>exact mI
  . obtain rfl:k=y.length:=oO;go_wp2;go_ret;exact⟨G,us,rfl,dO az.o,cm.o,HB.o⟩
end Go.Proofs.YtfgclhpgdanmfaaGreatDoor
