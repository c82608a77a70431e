import Derived.Test.YtfgclhpgdanmfaaGreatDoorS33BornB
namespace Go.Proofs.YtfgclhpgdanmfaaGreatDoor
set_option linter.defProp false
open Go.RowKit
open Go.Proofs.Tryz
set_option linter.unusedSimpArgs false
set_option linter.unusedVariables false
set_option maxHeartbeats 8000000
set_option maxRecDepth 1000000
variable{w:Vz}{B K a c g n:Nat}{v:Ac}{s:Vs}{x:Vt}
def Hj(u:Ac):Prop:=∃s,u=Value.string s
abbrev TG(w:Vz)(B:Nat)(v:Ac)(ss:Vt):Prop:=Grow w B 32 1 Hj v ss.length (iq ss)
def TG.app{nb:Nat}{a:Vt}(h:TG w B v a)(k:w.cell? ⟨nb,0,none⟩=some (.string s))(y:a.length<=1000)(hB:B<=w.heap.size)(ty:Vr):
 ∃d w',sQ prog 28 ty v (.slice (some ⟨nb,0,none⟩) 1 c) w=.ok d w'/\TG w' B d (a++ [s])/\Below B w w':=by
 obtain⟨i,l,m⟩:=aZ.1 Mr;injection m with n e
 injection e with e o
 obtain⟨d,w',p,q,r,_⟩:=Grow.app h (P:=prog) (t:=28) (ty:=ty) underlying28 l n e o rfl dD (fun u b=>⟨_,by simpa [Value.cells] using b⟩) ⟨nb,0,none⟩ 1 c [.string s] rfl (fun j u f=>by
  match j,f with
  |0,f=>
   obtain rfl:=aD f
   exact k) (fun u b=>by obtain rfl:=bE.1 b;rfl) (fun u b=>by obtain rfl:=bE.1 b;exact⟨_,rfl⟩) oO dD hB
 refine⟨d,w',p,?_,GB r (fun g x=>(h.lt x).1) hB⟩
 show Grow _ _ _ _ _ _ (a++ [s]).length (iq (a++ [s]))
 rw[aS,io,iq,dH];exact q
def TG.uv{b:Vt}(h:TG w B v b):∃a cap,v=.slice a b.length cap/\nz w a b:=by obtain⟨a,cap,e,_,c,_⟩:=qt h;exact⟨a,cap,e,fun i s d=>c.cell i (.string s) (by simp[iq,d])⟩
def Ms(a:Vx)(cap n K:Nat)(A:Am)(w:Vz)(W:∃m,w.cell? ⟨4,0,none⟩=some (.int .i64 m))(h:lk w a A)(hk:∀t,t∈ A->t.2.2<=K)(hK:K<274877906000)(X:A.length=n)(hl:n<=1000):
 Calls prog 39 #[.slice a n cap] w fun e w'=>∃(v:Ac)(r:Vt),e=.returned v/\TG w' w.heap.size v r/\r.length=n/\(∀(i:Nat)(t:RT)(s:Vs),A[i]?=some t->r[i]?=some s->iK s.data.toList t.2.1)/\Below w.heap.size w w':=by
 obtain⟨Z,O,HK,HN⟩:=Ic h (lM W) hk X;clear h W hk X;go_enter func39,ntmps39;go_wp2_with fail;go_loopw [3,8] (fun ov P wr=>∃(k:Nat)(r:Vt),k<=n/\P=.int .i64 k/\TG wr w.heap.size ov r/\r.length=k/\(∀(i:Nat)(t:RT)(s:Vs),A[i]?=some t->r[i]?=some s->iK s.data.toList t.2.1)/\Below w.heap.size w wr) (fun _ P _=>n - (intOf P).toNat)
 case atStart=>exact⟨0,[],cJ _,rfl,pA _ _ _ _ _,rfl,fun i t s _ M=>by simp at M,ac _ _⟩
 case round=>
  obtain⟨k,r,hk,rfl,y,B,g,C⟩:=hrel;obtain⟨D,d,E,f⟩:=Ic y B g C;obtain⟨oa,oc,Q,_⟩:=TG.uv y;subst Q;clear y B g C;by_cases aa:k<n
  .
   obtain⟨t,F⟩:∃t,A[k]?=some t:=⟨_,gE (oB HN.o)⟩;obtain⟨b,ab,rfl,hb,x0⟩:=(Z.o.below f.o).at F;have R:=HK.o t (mO F);have HT:=Hi (eT.uw (bx:=t.1) (p:=t.2.1) (j:=t.2.2) ((Z.o.below f.o).Qw ((O.o.below f.o).glob)) (mO F) oO);have q1:((k:Int)<(n:Int)):=oO;have S:=Hi F;clear F R;go_wp2_with fail;go_fit HT.o;rintro e w2 ⟨⟨s,rfl,M⟩,l⟩;have z:=Hi (f.o.trans (l.base.mono f.o.size));have x:=kA D.o l.base;have HS:=Hi M;obtain⟨Y,N⟩:=nm (w2.alloc (.cells #[.string s] 32));have u:Bl w2 Y:=by rw[<-N];exact(ac _ _).alloc lZ _
   have G:Y.cell? ⟨w2.heap.size,0,none⟩=some (.string s):=by rw[<-N];exact yA w2 _ _
   obtain⟨v',w',H,I,J⟩:=TG.app (kA x u) (s:=s) (nb:=w2.heap.size) (c:=1) G (oB d.o) (aE z.o.size u.size) 28;rw[<-N]at H;obtain⟨T,U⟩:=Ia I ((z.o.trans (u.mono z.o.size)).trans J);clear M l x N u G I J HT x0;go_wp2;go_roundw
   case rel=>
    refine⟨k+1,r++ [s],oO,by go_num,T.o,by simp[d.o],fun i t' s' L q=>?_,U.o⟩;rcases bB i k with hi|hi
    . rw[aR (oB d.o)]at q
      exact E.o i t' s' L q
    . have V:=(gZ q).1;rw[aS,d.o,io]at V;obtain rfl:i=k:=oO;rw[aX (oB d.o),d.o,fA]at q;obtain rfl:=aD q;obtain rfl:=aD (S.o.symm.trans L);exact HS.o
   case measure=>exact mI
  . obtain rfl:n=k:=oO;go_wp2;go_ret;exact⟨_,r,rfl,D.o,d.o,E.o,f.o⟩
def xu(nb:Nat)(ts:Am)(w:Vz)(e:As)(w':Vz):Prop:=∃(v1 v2:Ac)(x y:Vt),e=.returned (.agg #[v1,v2])/\TG w' w.heap.size v1 x/\TG w' w.heap.size v2 y/\x.length=nb/\y.length=ts.length - nb/\(∀(i:Nat)(t:RT)(s:Vs),(ts.take nb)[i]?=some t->x[i]?=some s->iK s.data.toList t.2.1)/\(∀(i:Nat)(t:RT)(s:Vs),(ts.drop nb)[i]?=some t->y[i]?=some s->iK s.data.toList t.2.1)/\Below w.heap.size w w'
def lk.take{a:Vx}{c:Am}(h:lk w a c)(n:Nat):lk w a (c.take n):=
 ⟨⟨fun j u b=>by
   rw[List.map_take]at b;have hl:=(gZ b).1;rw[cI]at hl;rw[aW oO]at b
   exact h.row.cell j u b⟩,fun t d=>h.vs t (dR d)⟩
def lk.drop{c:Am}(h:lk w (some ⟨g,a,none⟩) c)(n:Nat):lk w (some ⟨g,a+n,none⟩) (c.drop n):=
 ⟨⟨fun j u d=>by
   rw[List.map_drop,fN]at d;obtain⟨b,o,e,hb,f⟩:=h.row.cell (n+j) u d;injection e with e
   injection e with i k m
   subst i k
   exact⟨g,a+n,rfl,hb,by rw[gT];exact f⟩⟩,fun t l=>h.vs t (fR l)⟩
def TG.other{w:Vz}{B b i:Nat}{t:Vr}{C:Vw}{v x:Ac}{a:Vt}(h:TG w B v a)(d:SB w b t C)(e:32≠t):TG (w.setCell ⟨b,i,none⟩ x) B v a:=
 Grow.keep h fun g f=>by obtain⟨D,c,_⟩:=Grow.sb h f;exact((cX b w).setCell i x).block g c.lt (c.unlike d e)
def vA:=@TG.other
def QK(L M:Ac)(N:Vx)(c2 nb g o cap n K:Nat)(r:Am)(w:Vz)(P:∃m,w.cell? ⟨4,0,none⟩=some (.int .i64 m))(h:lk w (some ⟨g,o,none⟩) r)(hk:∀t,t∈ r->t.2.2<=K)(hK:K<274877906000)(hl:n<=1000)(B:r.length=n)(hn:nb<=n)(Q:n<=cap)(o1:L.oneCell'=true)(o3:M.oneCell'=true):
 Calls prog 12 #[.agg #[L,.slice N nb c2,M],.slice (some ⟨g,o,none⟩) n cap] w (xu nb r w):=by
 have l1:(r.take nb).length=nb:=tO;have l2:(r.drop nb).length=n - nb:=by rw[ix];omega
 obtain⟨A,hA,C⟩:∃A:Addr,(if cap=nb then some (⟨g,o,none⟩:Addr) else some ⟨g,o+nb,none⟩)=some A/\lk w (some A) (r.drop nb):=by
  by_cases e:cap=nb
  . refine⟨⟨g,o,none⟩,by simp[e],?_⟩;have:r.drop nb= []:=dG oO;rw[this];exact⟨⟨fun j u hj=>by simp at hj⟩,fun t D=>by cases D⟩
  . exact⟨⟨g,o+nb,none⟩,by simp[e],h.drop nb⟩
 obtain⟨R,S,T⟩:=Ib (fun u (E:Bl w u)=>Ms (some ⟨g,o,none⟩) cap nb K (r.take nb) u (((lM P).below E).glob) ((h.take nb).below E) (fun t D=>hk t (dR D)) hK l1 oO) (fun u (E:Bl w u)=>Ms (some A) (cap - nb) (n - nb) K (r.drop nb) u (((lM P).below E).glob) (C.below E) (fun t D=>hk t (fR D)) hK l2 oO) B;clear h P hk C l1 l2 B;go_enter func12,ntmps12;obtain⟨V,F⟩:=nm ((w.alloc (.cells #[L,.slice N nb c2,M] 26)).alloc (.cells #[.slice none 0 0,.slice none 0 0] 45));have s:=Ub F;have f:=Ud F;have a:=Ue F;have HV:=Hi F;clear F;have U:nb<=cap:=oO;have W:=Q;obtain⟨-,x1,-⟩:=zc f.o;have b:O (Bl V V):=Hi bR;go_wp2_with fail;rw[HV.o];go_region_held3 (fun v=>v.cell? ⟨w.heap.size,1,none⟩=some (.slice N nb c2)) ((first|(simp [*];done)|go_keep)) (first
  |(
   go_at_call_of 39 (Value.slice (some ⟨g,o,none⟩) nb cap);apply cM;apply R.o;(focus(repeat(first|exact s.o|apply CK|apply CJ)));rintro e1 w1 ⟨v1,x,rfl,c,i,k,hb⟩;obtain⟨z,l⟩:=Ia (s.o.trans (uz (by first|exact hb|exact(ac _ _).drew.trans hb) s.o.size)) (b.o.trans (uz (by first|exact hb|exact(ac _ _).drew.trans hb) b.o.size));clear b;have b:=l;have G:=Hi (ui c s.o.size);have ae:O (Below _ _ w1):=Hi (by first|exact hb|exact(ac _ _).drew.trans hb);obtain⟨X,Y⟩:=Ia i k;obtain⟨p1,U,Z,_⟩:=TG.uv c;subst Z;clear c i k hb x1;obtain⟨-,x1,-⟩:=zc (f.o.below l.o f.o.lt);obtain⟨r0,r1,-⟩:=zc (a.o.below l.o a.o.lt);have f0:=(a.o.below l.o a.o.lt).free 0;have f1:=(a.o.below l.o a.o.lt).free 1
   skip)
  |(
   go_at_call_of 39 (Value.slice (some A) (n - nb) (cap - nb));apply cM;apply S.o;(focus(repeat(first|exact z.o|apply CK|apply CJ)));rintro e2 w2 ⟨v2,y,rfl,c,i,k,hb⟩;obtain⟨aa,d⟩:=Ia (z.o.trans (uz (by first|exact hb|exact(ac _ _).drew.trans hb) z.o.size)) (b.o.trans (uz (by first|exact hb|exact(ac _ _).drew.trans hb) b.o.size));clear b;have b:=d;have H:=Hi (ui c z.o.size);have I:O (Below _ _ w2):=Hi (by first|exact hb|exact(ac _ _).drew.trans hb);obtain⟨ab,ad⟩:=Ia i k;obtain⟨p2,W,hv2,_⟩:=TG.uv c;subst hv2;clear c i k hb x1;obtain⟨-,x1,-⟩:=zc (f.o.below d.o f.o.lt);obtain⟨r0,r1,-⟩:=zc (a.o.below d.o a.o.lt);have f0:=(a.o.below d.o a.o.lt).free 0;have f1:=(a.o.below d.o a.o.lt).free 1
   skip)
  |fail)
 all_goals
  go_wp2;have q:=a.o.below d.o a.o.lt;refine bK (v:=.agg #[.slice p1 x.length U,.slice p2 y.length W]) (bG rfl _ _ (w.heap.size+1) 45 #[.slice p1 x.length U,.slice p2 y.length W] (0,0) _ rfl ((q.set 0 _).set 1 _) underlying45 rfl Tryz.xe) rfl ?_;have J:w.heap.size<=w.heap.size+1:=dU _;refine⟨_,_,x,y,rfl,?_,?_,X.o,by rw[ab.o,T.o],Y.o,ad.o,(aa.o.setCell (p:=⟨w.heap.size+1,0,none⟩) J _).setCell (p:=⟨w.heap.size+1,1,none⟩) J _⟩
  . have h1:=kA G.o (show Below w1.heap.size w1 w2 from I.o)
    exact TG.other (TG.other h1 q dD) (q.set 0 _) dD
  . exact TG.other (TG.other H.o q dD) (q.set 0 _) dD
abbrev SG(w:Vz)(B:Nat)(v:Ac)(ss:Ad):Prop:=Grow w B 34 2 Hj v ss.length (ss.flatMap S2.cells)
def Ni:(prog.info? 34).map (fun i=>(i.zero,i.size,i.bytes))=some (some (.agg #[.string ⟨#[]⟩,.string ⟨#[]⟩]),2,32):=kK
def SG.app{nb:Nat}{b:Ad}{s:S2}(h:SG w B v b)(f:SB w nb 34 #[.string s.x,.string s.y])(C:b.length<=1000)(hB:B<=w.heap.size)(ty:Vr):
 ∃d w',sQ prog 22 ty v (.slice (some ⟨nb,0,none⟩) 1 c) w=.ok d w'/\SG w' B d (b++ [s])/\Below B w w':=by
 obtain⟨i,k,l⟩:=aZ.1 Ni;injection l with m e
 injection e with e n
 obtain⟨d,w',o,p,q,_⟩:=Grow.app h (P:=prog) (t:=22) (ty:=ty) underlying22 k m e n rfl dD (fun u a=>⟨⟨#[]⟩,by simpa [Value.cells] using a⟩) ⟨nb,0,none⟩ 1 c [.string s.x,.string s.y] rfl (fun j u r=>by
  have:=f.cell j;rw[show (#[Value.string s.x,.string s.y]:Array Value)= [Value.string s.x,.string s.y].toArray from rfl,aK,r]at this;unfold Addr.add
  split
  . rename_i z;subst z;exact this
  . simpa using this) (fun u a=>by simp only[aY,dI,ji]at a;rcases a with rfl|rfl<;>rfl) (fun u a=>by simp only[aY,dI,ji]at a;rcases a with rfl|rfl<;>exact⟨_,rfl⟩) oO dD hB
 refine⟨d,w',o,?_,GB q (fun g A=>(Grow.lt h A).1) hB⟩
 show Grow _ _ _ _ _ _ (b++ [s]).length ((b++ [s]).flatMap S2.cells)
 rw[aS,io,jw]
 simpa [S2.cells] using p
def Rs(a:Vx)(cap n K:Nat)(r:Am)(w:Vz)(hg:∃m,w.cell? ⟨4,0,none⟩=some (.int .i64 m))(h:lk w a r)(hk:∀t,t∈ r->t.2.2<=K)(hK:K<274877906000)(hn:r.length=2*n)(hl:n<=100):
 Calls prog 11 #[.slice a r.length cap] w fun e w'=>∃(v:Ac)(B:Ad),e=.returned v/\SG w' w.heap.size v B/\B.length=n/\(∀(i:Nat)(t u:RT)(s:S2),r[2*i]?=some t->r[2*i+1]?=some u->B[i]?=some s->iK s.x.data.toList t.2.1/\iK s.y.data.toList u.2.1)/\Below w.heap.size w w':=by
 obtain⟨HH,af,HK,HN⟩:=Ic h (lM hg) hk hn;obtain⟨N,hN⟩:=nm r.length;rw[hN];have P:=Hi hN;have Q:N=2*n:=oO;have D:=Hi Q;have ag:N<=200:=oO;clear h hg hk hn hN Q;go_enter func11,ntmps11;go_wp2_with fail;go_loopw [3,4] (fun ov iv wr=>∃(k I:Nat)(B:Ad),I=2*k/\k<=n/\iv=.int .i64 I/\SG wr w.heap.size ov B/\B.length=k/\(∀(i:Nat)(t u:RT)(s:S2),r[2*i]?=some t->r[2*i+1]?=some u->B[i]?=some s->iK s.x.data.toList t.2.1/\iK s.y.data.toList u.2.1)/\Below w.heap.size w wr) (fun _ iv _=>N - (intOf iv).toNat)
 case atStart=>exact⟨0,0,[],rfl,cJ _,rfl,pA _ _ _ _ _,rfl,fun i t u s _ _ E=>by simp at E,ac _ _⟩
 case round=>
  obtain⟨k,I,B,hI,hk,rfl,F,R,z,S⟩:=hrel;obtain⟨HI,T,l,U,g⟩:=Id hI F R z S;obtain⟨oa,oc,ah,_⟩:=qt F;subst ah;have am:I<=N:=oB D.o;clear F R z S hI;by_cases an:k<n
  .
   obtain⟨J,hJ⟩:=nm (I+1);have ao:J<N:=oC D.o HI.o;have e2:IntKind.i64.wrap ((I:Int)+1)=(J:Int):=by rw[wrap_i64 _ oO oO];omega
   have q1:((J:Int)<(N:Int)):=oO;have q2:((I:Int)<(N:Int)):=oO;have q3:((0:Int)<=(J:Int)):=oO;have q4:((0:Int)<=(I:Int)):=oO;obtain⟨x,V⟩:∃x,r[I]?=some x:=⟨_,gE (oB P.o)⟩;obtain⟨y,W⟩:∃y,r[J]?=some y:=⟨_,gE (oB P.o)⟩;obtain⟨b,Y,rfl,G,c0⟩:=HH.o.at V;obtain⟨b',al,ai,ap,c1⟩:=HH.o.at W;cases ai;obtain⟨d0,d1⟩:=Ja g.o G c0 c1;have hb:=aF G g.o.size;obtain⟨C0,C1⟩:=Ia c0 c1;clear c0 c1;obtain⟨KX,KY⟩:=Ia (bQ (HK.o x (mO V)) hK) (bQ (HK.o y (mO W)) hK);have q:O (eT wr wr [x,y]):=Hi ⟨ac _ _,(af.o.below g.o).glob,fun t ht=>by
    have hv:=(HH.o.below g.o).vs;rcases aY.1 ht with rfl|ht
    . exact hv _ (mO V)
    . obtain rfl:=bE.1 ht
      exact hv _ (mO W)⟩
   obtain⟨D0,D1,HX,HY,HJ⟩:=Id d0 d1 V W hJ;clear V W hJ;go_wp2_with fail;go_region_held3 (fun v=>v.cell? ⟨b,Y+I,none⟩=some (.pointer (some ⟨x.1,0,none⟩))/\v.cell? ⟨b,Y+J,none⟩=some (.pointer (some ⟨y.1,0,none⟩))) ((first|(simp [*];done)|go_keep)) (first
    |
     (go_at_call_of 20 (Value.pointer (some ⟨x.1,0,none⟩))
      apply cM;apply eT.uw (w0:=wr);(focus(first|exact q.o|exact q.o.drew));(repeat(first|exact mH|apply mT));(focus(first|exact KX.o|exact KY.o));rintro e wn ⟨⟨s,rfl,E⟩,j⟩;have HS:=Hi E;clear q;have q:=Hi j;clear E j d0 d1;obtain⟨d0,d1⟩:=Ja q.o.base hb D0.o D1.o
      skip)
    |
     (go_at_call_of 20 (Value.pointer (some ⟨y.1,0,none⟩))
      apply cM;apply eT.uw (w0:=wr);(focus(first|exact q.o|exact q.o.drew));(repeat(first|exact mH|apply mT));(focus(first|exact KX.o|exact KY.o));rintro e wn ⟨⟨t,rfl,E⟩,j⟩;have HT:=Hi E;clear q;have q:=Hi j;clear E j d0 d1;obtain⟨d0,d1⟩:=Ja q.o.base hb D0.o D1.o
      skip)
    |(
     go_at_call 26;apply cM;apply Gz s t;rintro e w5 ⟨rfl,H⟩;have L:=Hi (q.o.base.trans (uz (by first|exact H|exact(ac _ _).drew.trans H) q.o.base.size));clear H d0 d1;obtain⟨d0,d1⟩:=Ja L.o hb D0.o D1.o;obtain⟨X,hX⟩:=nm (w5.alloc (.cells #[.string s,.string t] 34));have Z:Bl w5 X:=by rw[<-hX];exact(ac _ _).alloc lZ _
     have p:=L.o.trans (Z.mono L.o.size);obtain⟨v7,w7,aa,ab,ad⟩:=SG.app (s:=⟨s,t⟩) (c:=1) (kA T.o p) (by rw[<-hX];exact cK w5 _ _) (rO l.o) (aE g.o.size p.size) 22;obtain⟨aj,ae⟩:=Ia ab ((g.o.trans (p.mono g.o.size)).trans ad);obtain⟨g0,g1⟩:=Ja ae.o G C0.o C1.o;rw[<-hX]at aa
     clear hX Z p ab ad)
    |fail)
   all_goals
    go_wp2;go_roundw
    case rel=>
     refine⟨k+1,I+2,B++ [⟨s,t⟩],by have:=HI.o;omega,oO,by go_num,aj.o,by simp[l.o],fun i t' u' s' M C A=>?_,ae.o⟩;rcases bB i k with hi|hi
     . rw[aR (oB l.o)]at A
       exact U.o i t' u' s' M C A
     . have ak:=(gZ A).1;rw[aS,l.o,io]at ak;obtain rfl:i=k:=oO;rw[aX (oB l.o),l.o,fA]at A;obtain rfl:=aD A;rw[<-HI.o]at M C;rw[HJ.o]at C;obtain rfl:=aD (HX.o.symm.trans M);obtain rfl:=aD (HY.o.symm.trans C);exact⟨HS.o,HT.o⟩
    case measure=>exact mI
  . obtain rfl:n=k:=oO;have q1:¬((I:Int)+1<(N:Int)):=oC D.o HI.o;go_wp2;go_ret;exact⟨_,rfl,B,T.o,l.o,fun i a b c d e f s h1 h2 h3=>U.o i (a,b,c) (d,e,f) s h1 h2 h3,g.o⟩
def jI.inj{p:Nat}{b:AE}{c d x y:Int}(h:jI a p b c x)(k:jI a p b d y):c=d/\x=y:=by
 have n:∀{k k':Nat} {l f:L3},b[k]?=some l->(∀(i:Nat)(x:L3),i<k->b[i]?=some x->qn a x.j)->¬qn a l.j->b[k']?=some f->(∀(i:Nat)(x:L3),i<k'->b[i]?=some x->qn a x.j)->¬qn a f.j->k=k':=fun {k k' l f} e o g r s t=>by
  rcases gS k k' with h|h|h
  . exact absurd (s k l h e) g
  . exact h
  . exact absurd (o k' f h r) t
 rcases h with ⟨u,rfl,rfl⟩|⟨u,⟨i,l,e,o,g,rfl,rfl⟩|⟨e,rfl,rfl⟩⟩<;>rcases k with ⟨v,rfl,rfl⟩|⟨v,⟨j,m,k1,k2,q,rfl,rfl⟩|⟨k1,rfl,rfl⟩⟩
 . exact⟨rfl,rfl⟩
 . omega
 . omega
 . omega
 . rw[n e o g k1 k2 q]
   exact⟨rfl,rfl⟩
 . exact absurd (k1 i l e) g
 . omega
 . exact absurd (e j m k1) q
 . exact⟨rfl,rfl⟩
def Fo(w:Vz)(B:Nat)(v:Ac)(x:Vt):Prop:=(v=.slice none 0 0/\x= [])∨∃g,B<=g/\v=.slice (some ⟨g,0,none⟩) x.length x.length/\SB w g 32 (iq x).toArray
def Fo.uv(h:Fo w B v x):∃a,v=.slice a x.length x.length/\nz w a x:=by
 rcases h with ⟨rfl,rfl⟩|⟨g,_,rfl,h⟩
 . exact⟨none,rfl,fun i s b=>by simp at b⟩
 . exact⟨_,rfl,h.zY⟩
def IN{t:Vs}{q:Rat}(a:iK s.data.toList q)(b:iK t.data.toList q):s=t:=by
 have:=a.inj b;cases s;cases t
 congr 1
 exact Array.toList_inj.1 this
def B2(w:Vz)(B:Nat)(v:Ac)(n:Nat):Prop:=(v=.slice none 0 0/\n=0)∨∃(g:Nat)(C:Vw),B<=g/\v=.slice (some ⟨g,0,none⟩) n n/\SB w g 32 C/\C.size=n
def Fo.Qr(h:Fo w B v x):B2 w B v x.length:=by
 rcases h with ⟨rfl,rfl⟩|⟨g,a,rfl,b⟩
 . exact .inl ⟨rfl,rfl⟩
 . exact .inr ⟨g,_,a,rfl,b,by simp[iq]⟩
def B2.below{w':Vz}(h:B2 w B v n)(hb:Bl w w'):B2 w' B v n:=by
 rcases h with h|⟨g,C,b,c,a,d⟩
 . exact .inl h
 . exact .inr ⟨g,C,b,c,a.below hb a.lt,d⟩
def X3(h:B2 w B v n)(j:n<=1000)(hB:B<=w.heap.size):
 Calls prog 16 #[v] w fun e w'=>e=.returned (.tuple #[])/\Below B w w'/\(∀c m,B2 w B c m->B2 w' B c m)/\∀b t C,SB w b t C->t≠32->SB w' b t C:=by
 rcases h with ⟨rfl,rfl⟩|⟨g,C,k,rfl,a,l⟩
 . refine(Ro w).mono ?_;rintro e w' ⟨rfl,rfl⟩;exact⟨rfl,ac _ _,fun _ _ h=>h,fun _ _ _ h _=>h⟩
 .
  refine(Rn g n C w a l j).mono ?_;rintro e w' ⟨rfl,d,o,k1,k2⟩;refine⟨rfl,d.below k hB,fun c m h=>?_,fun b t D i p=>i.only d (i.unlike a p)⟩;rcases h with h|⟨f,D,d1,rfl,d2,d3⟩
  . exact .inl h
  .
   by_cases e:f=g
   . subst e;have:D=C:=by
      unfold SB at d2 a;rw[d2]at a;injection a with a
      injection a
     subst this;exact .inr ⟨f,o,d1,rfl,k1,oO⟩
   . exact .inr ⟨f,D,d1,rfl,d2.only d e,d3⟩
def pP(nj:Nat)(vb:Aa)(nb:Nat)(vh:Vy)(r:Nat):cW:=fun c=>if c<2*nj then (if r<nb then -(dP vb nb vh c r) else dP vb nb vh c r) else 0
section
variable {n:Nat} {js:Ad} {bs:Ap} {hs:Ak} {vb:Aa} {vh:Vy}
def Rg(a:rZ n js bs hs vb vh){i k:Nat}{p:Al}(b:vb[i]?=some p)(c:p.1<js.length)(d:p.2.1<js.length)(e:p.1≠p.2.1)(hk:k<2*js.length):stretch p (mM k)=pP js.length vb bs.length vh i k:=by have h:=QG a (mM k) b c d e;rw[LW hk]at h;have f:=(gZ b).1;unfold vU at h;unfold pP;rw[aN hk]at h ⊢;rw[aN (oB a.lb),h];grind
def Rf(a:rZ n js bs hs vb vh){i k r:Nat}(b:vh[i]?=some r)(c:r<2*js.length)(hk:k<2*js.length):mM k r=pP js.length vb bs.length vh (bs.length+i) k:=by have h:=QF a (mM k) b c;rw[LW hk]at h;unfold vU at h;unfold pP;rw[aN hk]at h ⊢;rw[aH oO,h]
end
def PV.stretch{N k:Nat}{us:Am}{p:Al}(h:PV w B g N K (mM k) us)(e:2*p.1+1<N)(f:2*p.2.1+1<N):stretch p (qv us)=stretch p (mM k):=by
 have a:∀j,j<N->qv us j=mM k j:=fun j c=>by obtain⟨b,i,d,_⟩:=h.get c;rw[vT d]
 unfold Go.Proofs.YtfgclhpgdanmfaaGreatDoor.stretch;rw[a _ oO,a _ oO,a _ oO,a _ oO]
def PV.row{x:cW}{a:Am}(h:PV w B g n K x a):lk w (some ⟨g,0,none⟩) a:=by have:=h.take (m:=a.length);rw[dB]at this;exact this
def Fb(a b c d e:Addr)(x y z t u:Ac)(v:Vz):Prop:=v.cell? a=some x/\v.cell? b=some y/\v.cell? c=some z/\v.cell? d=some t/\v.cell? e=some u
def Mo{a b c d e:Addr}{x y z t u:Ac}(v:Vz)(f:v.cell? a=some x)(g:v.cell? b=some y)(h:v.cell? c=some z)(i:v.cell? d=some t)(j:v.cell? e=some u):Fb a b c d e x y z t u v:=⟨f,g,h,i,j⟩
def Re(a1 a2 a3:Vx)(c1 c2 c3 K:Nat)(js:Ad)(bs:Ap)(hs:Ak)(vb:Aa)(vh:Vy)(w:Vz)(hg:∃m,w.cell? ⟨4,0,none⟩=some (.int .i64 m))(hf:ja w a1 a2 a3 c1 c2 c3 js bs hs)(hv:rZ 1048576 js bs hs vb vh)(hw:∀(i:Nat)(h:H3),hs[i]?=some h->h.w=1∨h.w=2)(F:16777229<=K):
 Calls prog 35 #[.agg #[.slice a1 js.length c1,.slice a2 bs.length c2,.slice a3 hs.length c3]] w fun e w'=>∃(R g:Nat)(vs:Vv)(f:AC),R=bs.length+hs.length/\e=.returned (.slice (some ⟨g,0,none⟩) R R)/\GR w' w.heap.size g vs f/\vs.length=R/\rS (pP js.length vb bs.length vh) K 0 (2*js.length) f/\Below w.heap.size w w':=by
 have n1:=hv.j;have n2:=hv.b;have n3:=hv.h;obtain⟨HG,HF,HV,HW⟩:=Ic (lM hg) hf hv hw;obtain⟨N,hN⟩:=nm (2*js.length);obtain⟨R,hR⟩:=nm (bs.length+hs.length);have eN:IntKind.i64.wrap (2*(js.length:Int))=(N:Int):=by rw[wrap_i64 _ oO oO];omega
 have b4:=fun w=>PM R oO w
 obtain⟨MC,bh⟩:=nm ((List.replicate R (Value.slice none 0 0)).toArray);rw[bh]at b4;obtain⟨B0,bi⟩:=nm w.heap.size;obtain⟨V,hV⟩:=nm (w.alloc (.cells #[.slice a1 js.length c1,.slice a2 bs.length c2,.slice a3 hs.length c3] 26));have b5:=Ua hV;have b6:=Uf hV bi;obtain⟨ar,a7⟩:=Ia hN hR;have dc:N<=20:=oO;have dd:R<=44:=oO;have de:bs.length<=R:=oO;obtain⟨cq,cr,cs⟩:=Ib hV bi bh;clear hg hf hv hw hN hR bh hV bi;go_enter func35,ntmps35;go_wp2_with fail;rw[cq.o];simp only[cr.o];go_fit (Fx a1 a2 a3 c1 c2 c3 js.length bs.length hs.length V n2 n3);rintro e w1 ⟨rfl,a8⟩;have en:((bs.length:Int)+(hs.length:Int))=(R:Int):=oB a7.o;rw[en];obtain⟨df,D,a9⟩:=Ib a8 (b5.o.trans (a8.mono b5.o.size)) (b6.o.below a8 b6.o.lt);obtain⟨g,bj⟩:=nm w1.heap.size;obtain⟨W1,ba⟩:=nm (w1.alloc (.cells MC 81));have b7:O (GR W1 g g (List.replicate R (Value.slice none 0 0)) (List.replicate R [])):=Hi (by rw[<-ba,<-cs.o,<-bj];exact GR.start w1 R);have G:=Ua ba;obtain⟨H,b8⟩:=Ia bj ba;clear a8 en bj ba;go_wp2_with fail;rw[b8.o];rw[H.o];clear b4;go_loopw [5] (fun iv wr=>∃(k:Nat)(vs:Vv)(f:AC),k<=N/\iv=.int .i64 k/\GR wr g g vs f/\vs.length=R/\rS (pP js.length vb bs.length vh) K 0 k f/\Below g w1 wr) (fun iv _=>N - (intOf iv).toNat)
 case atStart=> refine⟨0,_,_,cJ _,rfl,b7.o,sS,fun r ts hr=>?_,G.o.mono (cO H.o.symm)⟩;obtain⟨_,rfl⟩:=fM.1 (mO hr);exact⟨sS,fun c t hc=>by simp at hc⟩
 case round=>
  clear b7 G b8;obtain⟨k,vs,f,hk,rfl,Y,aa,ab,l⟩:=hrel;obtain⟨d,x,B,C,Q⟩:=Id Y aa ab l (D.o.trans (l.mono (oC H.o D.o.size)));clear Y aa ab l;by_cases ct:k<N
  .
   have q1:(k:Int)<(N:Int):=oO;have b9:O (k<2*js.length):=Hi (oB ar.o);have HU:=Hi (NA N k wr ((HG.o.below Q.o).glob) ct oO);go_wp2_with fail;go_fit HU.o;rintro e w2 ⟨W,us,rfl,E,bk⟩;have y:O (PV w2 W W N 1 (mM k) us):=Hi ⟨E.blk,aV _,E.len,E.q⟩;obtain⟨bl,ca,au⟩:=Ib E.low (d.o.below bk) (C.o.trans (bk.mono (oC C.o.size H.o)));have A:O (∀u,u∈ vs->u.ownBlock≠some W):=Hi (fun u hu e=>by have:=(d.o.qu hu e).2;have:=bl.o;omega);have av:O (W≠g):=Hi (fun e=>by have:=d.o.blk.lt;have:=bl.o;omega);have ad:O (B0<g):=Hi (oC a9.o.lt H.o);clear E bk HU;obtain⟨-,z1,-⟩:=zc (a9.o.below au.o ad.o);go_wp2_with fail;clear z1;go_loopw [28] (fun iv wr=>∃(i:Nat)(vs:Vv)(f:AC),i<=bs.length/\iv=.int .i64 i/\GR wr g g vs f/\vs.length=R/\rS (pP js.length vb bs.length vh) K i k f/\PV wr W W N 1 (mM k) us/\(∀u,u∈ vs->u.ownBlock≠some W)/\Below g w1 wr) (fun iv _=>bs.length - (intOf iv).toNat)
   case atStart=>exact⟨0,vs,f,cJ _,rfl,ca.o,x.o,B.o,y.o,A.o,au.o⟩
   case round=>
    clear ca au A d x B y Q C bl;obtain⟨i,vs,f,hi,rfl,Y,aa,ab,E,ae,l⟩:=hrel;obtain⟨d,x,B,y,A,C,Q,af⟩:=Ig Y aa ab E ae l (D.o.trans (l.mono (oC H.o D.o.size))) (a9.o.below l ad.o);clear Y aa ab E ae l;by_cases cu:i<bs.length
    .
     obtain⟨v,hv⟩:∃v,vs[i]?=some v:=⟨_,gE (rO x.o)⟩;obtain⟨ts,ag,hp,x0,va,vc,rfl⟩:=d.o.get hv;obtain⟨b,bm⟩:∃b,bs[i]?=some b:=⟨_,gE cu⟩;obtain⟨p,bn⟩:∃p,vb[i]?=some p:=⟨vb[i]'(oB HV.o.lb),gE _⟩;have bc:=HV.o.vb i b p bm bn;obtain⟨s,t,_,_,_,_,e1,e2,_⟩:=bc.ex;have l1:=(gZ e1).1;have l2:=(gZ e2).1;have L:=(B.o i ts ag).1;rw[aH (sk _)]at L;have cv:=Hi L;have br:O (stretch p (qv us)=pP js.length vb bs.length vh i k):=Hi (by
      have:=ar.o;rw[y.o.stretch oO oO]
      exact Rg HV.o bn l1 l2 bc.ne b9.o)
     have bd:Bl wr wr.drew:=bR.drew;have cb:=Hi (Rh a1 a2 a3 (some ⟨W,0,none⟩) c1 c2 c3 N i 1 js bs hs b p us wr.drew ((HG.o.below Q.o).below bd).glob ((HF.o.below Q.o).below bd) bm bc n1 n2 ((y.o.below bd).row) (by rw[y.o.len];exact ar.o.symm) (fun t ht=>by
      obtain⟨j,hj⟩:=dM ht
      exact(y.o.q j t hj).2) dD)
     rw[y.o.len]at cb;obtain⟨cc,cd⟩:=Ia ag hv;have cf:=d.o.blk.lt;have cg:=af.o.lt;obtain⟨tn,ap⟩:=nm ts.length;rw[ap]at x0 cd;have dg:=Hi ap;obtain⟨z0,z1,z2,-⟩:=zc af.o;have cw:=Hi x0;have q2:(i:Int)<(bs.length:Int):=oO;have q3:(i:Int)<(R:Int):=oO;clear hv hp ag bm bn bc e1 e2 l1 l2 L bd ap;go_wp2_with fail;have a:=Fm wr.drew x0 z0 z1 z2;refine dK.BQ (k:=13) kK a ?_;refine xG [0,1,2,3,4,5,6,7,8,9,10,11,12,13] ?_
     iterate 9
      refine xH (v:=?_) (by rfl) kK kK kK kK iZ a (fT ⟨by rfl,?_⟩) ?_
      rotate_left 1
      (focus(intro wq ak;obtain⟨bt,bu,bv,bw⟩:=ak;first|(go_simp;done)|(go_simp;with_reducible rfl)));(try simp only[Act.put,sA,sB,sC])
     clear a;refine zW kK (by rfl) (fun KK F=>?_);go_simp;apply cM;apply cb.o;rintro e w2 ⟨bq,rfl,aw⟩;have G:O (Bl wr w2):=Hi (bR.drew.trans aw.base);have bx:=aw.ts _ (bM _);clear x0 z0 z1 z2;have x0:=ce G.o cf cw.o;have I:=af.o.below G.o cg;obtain⟨z0,z1,z2,-⟩:=zc I;obtain⟨v',w4,M,y0,y1,⟨na,nc,ax⟩,ah,S,ay,aq⟩:=(d.o.below G.o).app (K:=K) cd.o cc.o bx.1 (bx.2.1.mono (by simp only;omega)) oO (oB cv.o) (oC d.o.low G.o.size) 81;subst ax;have ai:=y.o.below G.o;obtain⟨P,aj⟩:=aq W A.o ai.blk.blk.lt av.o;have an:=Hi ah;have bz:=Hi S;have ao:O (PV _ W W N 1 _ us):=Hi ⟨⟨ai.blk.blk.same P,fun t ht=>⟨ay _ _ (ai.blk.vs t ht).1,(ai.blk.vs t ht).2⟩⟩,ai.low,ai.len,ai.q⟩;have T:=Hi aj;have ch:=I.below (S.mono lZ) (oB ad.o);obtain⟨y2,y3,y4,-⟩:=zc ch;have U:Bl w2 (w2.alloc (.cells #[.pointer (some ⟨bq,0,none⟩)] 63)):=bR.alloc lZ _;have u0:=ce U (aF cf G.o.size) x0;have be:=I.below U I.lt;have u1:(w2.alloc (.cells #[.pointer (some ⟨bq,0,none⟩)] 63)).cell? ⟨B0,0,none⟩=some (.slice a1 js.length c1):=be.cell 0;have u2:(w2.alloc (.cells #[.pointer (some ⟨bq,0,none⟩)] 63)).cell? ⟨B0,1,none⟩=some (.slice a2 bs.length c2):=be.cell 1;have u3:(w2.alloc (.cells #[.pointer (some ⟨bq,0,none⟩)] 63)).cell? ⟨B0,2,none⟩=some (.slice a3 hs.length c3):=be.cell 2;clear aw bx ah S ay aq P aj ai I ch U be;refine F.out _ _ (fun _=>⟨x0,z0,z1,z2⟩) ?_;clear F KK;(try simp only[Act.put,sA,sB,sC]);refine zW kK (by rfl) (fun KK F=>?_);go_simp;refine F.out _ _ (fun _=>⟨u0,u1,u2,u3⟩) ?_;clear F KK;(try simp only[Act.put,sA,sB,sC]);clear u0 u1 u2 u3;refine zW kK (by rfl) (fun KK F=>?_);refine BI (t:=81) rfl (.tmp 36) (.tmp 41) rfl (vs:=.slice va tn vc) (vx:=.slice (some ⟨w2.heap.size,0,none⟩) 1 1) (by simp[Act.eval]) (by simp[Act.eval]) M ?_;refine F.out _ _ (fun _=>⟨y0,y2,y3,y4⟩) ?_;clear F KK;(try simp only[Act.put,sA,sB,sC]);have a:=Fm w4 y0 y2 y3 y4;refine xH (v:=?_) (by rfl) kK kK kK kK iZ a (fT ⟨by rfl,?_⟩) ?_
     rotate_left 1
     (focus(intro wq ak;obtain⟨bt,bu,bv,bw⟩:=ak;first|(go_simp;done)|(go_simp;with_reducible rfl)));(try simp only[Act.put,sA,sB,sC]);clear a;refine zW kK (by rfl) (fun KK F=>?_);go_simp;refine F.out _ _ (fun h=>absurd rfl h) ?_;clear F KK;(try simp only[Act.put,sA,sB,sC]);refine qT (vD kK ?_ _);clear x0 z0 z1 z2 y0 y1 y2 y3 y4 M;go_wp2;go_roundw
     case rel=> exact⟨i+1,_,_,oO,by go_num,an.o,by rw[aQ];exact x.o,B.o.step cc.o br.o,ao.o,T.o,(C.o.trans (G.o.mono (oC C.o.size H.o))).trans (bz.o.setCell (p:=⟨g,i,none⟩) lZ _)⟩
     case measure=>exact mI
    .
     obtain rfl:i=bs.length:=oO;obtain⟨-,-,z2,-⟩:=zc af.o;go_wp2_with fail;clear z2;go_loopw [48] (fun iv wr=>∃(m:Nat)(vs:Vv)(f:AC),m<=hs.length/\iv=.int .i64 m/\GR wr g g vs f/\vs.length=R/\rS (pP js.length vb bs.length vh) K (bs.length+m) k f/\PV wr W W N 1 (mM k) us/\(∀u,u∈ vs->u.ownBlock≠some W)/\Below g w1 wr) (fun iv _=>hs.length - (intOf iv).toNat)
     case atStart=>exact⟨0,vs,f,cJ _,rfl,d.o,x.o,B.o,y.o,A.o,C.o⟩
     case round=>
      clear A d x B y Q C af;obtain⟨m,vs,f,hm,rfl,Y,aa,ab,E,ae,l⟩:=hrel;obtain⟨d,x,B,y,A,C,Q,af⟩:=Ig Y aa ab E ae l (D.o.trans (l.mono (oC H.o D.o.size))) (a9.o.below l ad.o);clear Y aa ab E ae l;by_cases cx:m<hs.length
      .
       obtain⟨h,bf⟩:∃h,hs[m]?=some h:=⟨_,gE cx⟩;obtain⟨R0,b0⟩:∃r,vh[m]?=some r:=⟨vh[m]'(oB HV.o.lh),gE _⟩;obtain⟨J,hJ,cy,b1⟩:=(HV.o.vh m h R0 bf b0).ex;obtain⟨bb,bo,rfl,dh,d0,d1,d2⟩:=(HF.o.h.below Q.o).sJ bf;obtain⟨WW,ci,cj,cz⟩:∃WW:Nat,h.w=(WW:Int)/\(WW=1∨WW=2)/\R0+1=2*J+WW:=by
        rcases HW.o m h bf with e|e
        . exact⟨1,by rw[e];rfl,.inl rfl,by rw[b1,aN e]⟩
        . exact⟨2,by rw[e];rfl,.inr rfl,by rw[b1,aH oO]⟩
       rw[hJ]at d0;rw[ci]at d1;obtain⟨RI,az⟩:=nm (bs.length+m);obtain⟨J2,c0⟩:=nm (2*J);obtain⟨S1,c4⟩:=nm (J2+WW);have di:IntKind.i64.wrap (2*(J:Int))=(J2:Int):=by rw[wrap_i64 _ oO oO];omega
       have dj:IntKind.i64.wrap ((J2:Int)+(WW:Int))=(S1:Int):=by rw[wrap_i64 _ oO oO];omega
       have dk:IntKind.i64.wrap ((S1:Int) - 1)=(R0:Int):=by rw[wrap_i64 _ oO oO];omega
       have dl:IntKind.i64.wrap ((bs.length:Int)+(m:Int))=(RI:Int):=by rw[wrap_i64 _ oO oO];omega
       have c5:R0<N:=oB ar.o;have ck:RI<R:=oB a7.o;have iR:(R0:Int)<(N:Int):=oO;have iI:(RI:Int)<(R:Int):=oO;have q2:((m:Int)<(hs.length:Int)):=oO;have br:O (mM k R0=pP js.length vb bs.length vh RI k):=Hi (by
        rw[<-az]
        exact Rf HV.o b0 oO b9.o)
       obtain⟨a0,a4⟩:=nm wr.heap.size;obtain⟨Z,bg⟩:=nm (wr.alloc (.cells #[.int .i64 (J:Nat),.int .i64 (WW:Nat),.string h.q] 74));obtain⟨X,hX⟩:=nm Z.drew;have b2:Bl wr Z:=by rw[<-bg];exact(ac _ _).alloc lZ _
       have a5:Bl Z X:=by rw[<-hX];exact(ac _ _).drew
       have b3:SB Z a0 74 #[.int .i64 (J:Nat),.int .i64 (WW:Nat),.string h.q]:=by rw[<-bg,<-a4];exact cK wr _ _
       have al:=b3.below a5 b3.lt;obtain⟨am,dm⟩:=Ia (b2.trans (a5.mono b2.size)) al;obtain⟨v,hv⟩:∃v,vs[RI]?=some v:=⟨_,gE (by rw[x.o];exact ck)⟩;obtain⟨ts,ag,hp,x2,va,vc,rfl⟩:=(d.o.below am.o).get hv;have z:=y.o.below am.o;obtain⟨pb,pk,_,x4,hq,cl,_⟩:=z.get c5;have L:=(B.o RI ts ag).1;rw[az,aH (sk _)]at L;have I:=af.o.below am.o af.o.lt;obtain⟨x0,x1,-⟩:=zc al;obtain⟨-,x3,-⟩:=zc I;obtain⟨v',w4,M,y2,y5,⟨na,nc,ax⟩,ah,S,ay,aq⟩:=(d.o.below am.o).app (K:=K) hv ag hq (cl.mono oO) oO oO (by have:=d.o.low;have:=d.o.blk.lt;have:=am.o.size;omega) 81;subst ax;obtain⟨P,aj⟩:=aq W A.o z.blk.blk.lt av.o;have an:=Hi ah;have bz:=Hi S;have ao:O (PV _ W W N 1 _ us):=Hi ⟨⟨z.blk.blk.same P,fun t ht=>⟨ay _ _ (z.blk.vs t ht).1,(z.blk.vs t ht).2⟩⟩,z.low,z.len,z.q⟩;have T:=Hi aj;have cm:=Hi (rS.step (pb:=pb) (i:=RI) (by rw[<-az];exact B.o) ag br.o);have c6:O (∀u,u∈ vs->u.ownBlock≠some a0):=Hi (fun u hu e=>by have:=(d.o.qu hu e).2;omega);have cn:O (a0≠g):=Hi (fun e=>by have:=d.o.blk.lt;omega);have a6:∀b,b≠g->b<w4.heap.size->(w4.setCell ⟨g,RI,none⟩ (.slice na (ts.length+1) nc)).heap[b]?=w4.heap[b]?:=fun b hb hl=>((cX g w4).setCell _ _).block b hl hb
       have e1:=(a6 a0 cn.o (aF al.lt S.size)).symm.trans (aq a0 c6.o al.lt cn.o).1;have e2:=(a6 W av.o (aF z.blk.blk.lt S.size)).symm.trans P;obtain⟨y0,y1,-⟩:=zc (al.same e1);obtain⟨-,y3,-⟩:=zc (I.below S ad.o);have y4:=((z.blk.blk.same e2).cell R0).trans ((z.blk.blk.cell R0).symm.trans x4);have U:Bl X (X.alloc (.cells #[.pointer (some ⟨pb,0,none⟩)] 63)):=bR.alloc lZ _;obtain⟨u0,u1⟩:=Ja U al.lt x0 x1;have u2:=(U.cell (p:=⟨g,RI,none⟩) (d.o.below am.o).blk.lt).trans x2;have u3:=ce U I.lt x3;have u4:=ce U z.blk.blk.lt x4;obtain⟨tn,ap⟩:=nm ts.length;rw[ap]at x2 u2 y2 M an ao T;obtain⟨c7,c8,cp,c9⟩:=Ic bg a4 hX az;clear bf b0 hJ cy b1 ci cj cz az c0 c4 a4 bg hX b2 a5 b3 al hv ag hp z hq cl L I ah S ay aq P aj a6 e1 e2 U ap;go_wp2_with fail;rw[c7.o];simp only[c8.o];clear d0 d1 d2;have a:=Mo X x0 x1 x2 x3 x4;rw[<-cp.o]at a;refine dK.BQ (k:=27) kK a ?_;rw[cp.o]at a ⊢;refine xG [0,1,2,3,4,5,6,7,8,9,10,11,12,13,14,15,16,17,18,19,20,21,22,23,24,25,26,27] ?_
       iterate 24
        refine xH (v:=?_) (by rfl) kK kK kK kK iZ a (fT ⟨by rfl,?_⟩) ?_
        rotate_left 1
        (focus(intro wq ak;obtain⟨bt,bu,bv,bw,da⟩:=ak;first|(go_simp;done)|(go_simp;with_reducible rfl)));(try simp only[Act.put,sA,sB,sC])
       clear a;refine zW kK (by rfl) (fun KK F=>?_);go_simp;refine F.out _ _ (fun _=>⟨u0,u1,u2,u3,u4⟩) ?_;clear F KK;(try simp only[Act.put,sA,sB,sC]);clear u0 u1 u2 u3 u4 x0 x1 x2 x3 x4;refine zW kK (by rfl) (fun KK F=>?_);refine BI (t:=81) rfl (.tmp 66) (.tmp 77) rfl (vs:=.slice va tn vc) (vx:=.slice (some ⟨X.heap.size,0,none⟩) 1 1) (by simp[Act.eval]) (by simp[Act.eval]) M ?_;refine F.out _ _ (fun _=>⟨y0,y1,y2,y3,y4⟩) ?_;clear F KK;(try simp only[Act.put,sA,sB,sC]);have a:=Mo w4 y0 y1 y2 y3 y4;refine xH (v:=?_) (by rfl) kK kK kK kK iZ a (fT ⟨by rfl,?_⟩) ?_
       rotate_left 1
       (focus(intro wq ak;obtain⟨bt,bu,bv,bw,da⟩:=ak;first|(go_simp;done)|(go_simp;with_reducible rfl)));(try simp only[Act.put,sA,sB,sC]);clear a;refine zW kK (by rfl) (fun KK F=>?_);go_simp;refine F.out _ _ (fun h=>absurd rfl h) ?_;clear F KK;(try simp only[Act.put,sA,sB,sC]);refine qT (vD kK ?_ _);clear y0 y1 y2 y3 y4 y5 M;go_wp2;go_roundw
       case rel=> refine⟨m+1,_,_,oO,by go_num,an.o,by rw[aQ];exact x.o,?_,ao.o,T.o,(C.o.trans (am.o.mono (oC C.o.size H.o))).trans (bz.o.setCell (p:=⟨g,RI,none⟩) lZ _)⟩;rw[<-gT,c9.o];exact cm.o
       case measure=>exact mI
      . obtain rfl:m=hs.length:=oO;go_wp2;go_roundw
        case rel=>exact⟨k+1,vs,f,oO,by go_num,d.o,x.o,B.o.next (by rw[d.o.len,x.o];exact cO a7.o.symm),C.o⟩
        case measure=>exact mI
  . obtain rfl:N=k:=oO;go_wp2;go_ret;have db:w.heap.size<=g:=oC H.o D.o.size;exact⟨R,g,vs,f,a7.o.symm,rfl,d.o.mono db,x.o,by rw[ar.o];exact B.o,Q.o⟩
end Go.Proofs.YtfgclhpgdanmfaaGreatDoor
