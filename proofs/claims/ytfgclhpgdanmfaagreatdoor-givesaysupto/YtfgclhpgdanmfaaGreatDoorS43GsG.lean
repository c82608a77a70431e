import Derived.Test.YtfgclhpgdanmfaaGreatDoorS42GsL
import Derived.Laws.IdiomCopy
namespace Go.Proofs.YtfgclhpgdanmfaaGreatDoor
set_option linter.defProp false
open Go.RowKit
open Go.Proofs.Tryz
set_option linter.unusedSimpArgs false
set_option linter.unusedVariables false
set_option maxHeartbeats 8000000
set_option maxRecDepth 1000000
variable{B K g i k n:Nat}{w:Vz}{b:Am}
def Ln{m:Nat}{hs:Ak}{h:H3}(k:jp m hs i h=0):(h.w=1∨h.w=2)/\¬(h.j,h.w)∈ li (hs.take i):=by
 unfold jp qE at k
 split at k
 .
  split at k
  . cases k
  . rename_i c;refine⟨oO,fun b=>?_⟩;rw[aN (dC b)]at k;cases k
 . cases k
section
variable {n:Nat} {js:Ad} {bs:Ap} {hs:Ak} {vb:Aa} {vh:Vy}
def OL(f:dW js bs hs 0 0)(g:rZ n js bs hs vb vh){i j r:Nat}(p:vh[i]?=some r)(q:vh[j]?=some r)(h:i<j):False:=by
 obtain⟨_,_,s,_⟩:=f.Dd;have z:=(gZ p).1;have A:=(gZ q).1;have B:=g.lh;obtain⟨x,k⟩:∃x,hs[i]?=some x:=⟨hs[i]' oO,gE _⟩;obtain⟨y,t⟩:∃y,hs[j]?=some y:=⟨hs[j]' oO,gE _⟩;obtain⟨a,u,_,c⟩:=(g.vh i x r k p).ex;obtain⟨b,hb,_,d⟩:=(g.vh j y r t q).ex;obtain⟨wx,_⟩:=Ln (s i x k);obtain⟨v,l⟩:=Ln (s j y t);refine l ?_;unfold li;refine bZ.2 ⟨x,mO (i:=i) (by rw[aW h];exact k),?_⟩;have e:x.w=y.w/\a=b:=by
  rcases wx with m|m<;>rcases v with o|o
  . rw[aN m]at c;rw[aN o]at d;exact⟨oO,oO⟩
  . rw[aN m]at c;rw[aH oO]at d;omega
  . rw[aH oO]at c;rw[aN o]at d;omega
  . rw[aH oO]at c;rw[aH oO]at d;exact⟨oO,oO⟩
 rw[u,hb,e.1,e.2]
def OJ(b:dW js bs hs 0 0)(c:rZ n js bs hs vb vh){i j r:Nat}(d:vh[i]?=some r)(e:vh[j]?=some r):i=j:=by
 rcases gS i j with h|h|h
 . exact(OL b c d e h).elim
 . exact h
 . exact(OL b c e d h).elim
theorem OI(b:dW js bs hs 0 0)(d:rZ n js bs hs vb vh){bv:cW}{j r:Nat}(c:vh[j]?=some r):∀k,j<k->jC vh bv k r=bv j
 |0,h=>oO
 |k+1,h=>by
  show (if vh[k]?=some r then bv k else jC vh bv k r)=bv j
  by_cases hk:vh[k]?=some r
  . rw[aN hk,OJ b d c hk]
  . have f:j≠k:=fun e=>hk (by rw[<-e];exact c)
    rw[aH hk];exact OI b d c k oO
structure rd (W nb nh:Nat) (vb:Aa) (vh:Vy) (bv:cW):Prop where
 bal:∀w j,w<W->j<nh->dP vb nb vh w (nb+j)=if vh.getD j 0=w then 1 else 0
 way:∀j,j<nh->vh.getD j 0<W
 inj:∀i j,i<nh->j<nh->vh.getD i 0=vh.getD j 0->i=j
 held:∀w,w<W->hO vh w=false->∃j,j<nh/\vh.getD j 0=w
 free:∀w j,w<W->hO vh w=true->j<nh->vh.getD j 0≠w
 at_:∀j,j<nh->hO vh (vh.getD j 0)=false
 hv:∀j,j<nh->jC vh bv nh (vh.getD j 0)=bv j
def Gu(f:dW js bs hs 0 0)(d:rZ n js bs hs vb vh)(bv:cW):rd (2*js.length) bs.length hs.length vb vh bv:=by
 have c:∀j,j<hs.length->vh[j]?=some (vh.getD j 0):=fun j b=>by have q:=d.lh;rw[aC,gE oO];rfl
 have g:∀w,hO vh w=false↔w∈ vh:=fun w=>by unfold hO;simp
 refine⟨fun w j k b=>?_,fun j b=>?_,fun i j l b e=>?_,fun w k h=>?_,fun w j k h b e=>?_,fun j b=>?_,fun j b=>?_⟩
 .
  have m:vb[bs.length+j]?=none:=aO (oB d.lb);unfold dP;rw[m];simp only[fI,c j b];by_cases e:vh.getD j 0=w
  . rw[aN ⟨oO,e.symm⟩,aN e]
  . rw[aH (fun h=>e h.2.symm),aH e]
 . obtain⟨x,o⟩:∃x,hs[j]?=some x:=⟨hs[j],gE b⟩;obtain⟨a,_,r,e⟩:=(d.vh j x _ o (c j b)).ex
   split at e<;>omega
 . refine OJ f d (c i l) ?_;rw[e];exact c j b
 . obtain⟨j,b⟩:=dM ((g w).1 h);have hl:=(gZ b).1;refine⟨j,by have:=d.lh;omega,?_⟩;rw[aC,b];rfl
 . have p:w∈ vh:=by rw[<-e];exact mO (c j b)
   rw[(g w).2 p]at h;cases h
 . exact(g _).2 (mO (c j b))
 . exact OI f d (c j b) _ b
variable {W nb nh:Nat} {cv ev bv a:cW}
def rd.qH(h:rd W nb nh vb vh bv){x:cW}(k:Giv.GvOK W nb nh (dP vb nb vh) cv ev bv a x):Giv.Settles W nb (dP vb nb vh) cv ev (hO vh) (jC vh bv nh) a x:=
 k.qH (h:=fun j=>vh.getD j 0) h.bal h.way h.held h.free h.hv
def rd.A8(h:rd W nb nh vb vh bv){m:cW}(k:Giv.Settles W nb (dP vb nb vh) cv ev (hO vh) (jC vh bv nh) a m):Giv.GvOK W nb nh (dP vb nb vh) cv ev bv a (Giv.gvX W nb (dP vb nb vh) cv ev a (fun j=>vh.getD j 0) m):=
 Giv.gv_of k h.bal h.way h.inj h.at_ h.held h.hv
def rd.same(h:rd W nb nh vb vh bv){x y:cW}(k:Giv.GvOK W nb nh (dP vb nb vh) cv ev bv a x)(l:Giv.GvOK W nb nh (dP vb nb vh) cv ev bv a y)(b:∀w,w<W->x w=y w):∀r,r<W+(nb+nh)->x r=y r:=
 k.same (h:=fun j=>vh.getD j 0) l b h.bal h.way h.inj
end
def Wm(a b:Vx)(c d:Nat)(l:Ad)(w:Vz)(k:eO S2.cells w a c l)(m:eO S2.cells w b d l)(t:l.length<=1000000):
 Calls prog 50 #[.slice a l.length c,.slice b l.length d] w fun e w'=>e=.returned (.bool true)/\Below w.heap.size w w':=by
 obtain⟨p,q⟩:=Ia k m;clear k m;go_enter func50,ntmps50;go_wp2_with fail;go_loopw [13] (fun g wr=>∃i:Nat,i<=l.length/\g=.int .i64 i/\Below w.heap.size w wr) (fun g _=>l.length - (intOf g).toNat)
 case atStart=>exact⟨0,oO,rfl,ac _ _⟩
 case round=>
  obtain⟨i,u,rfl,hb⟩:=hrel;have n:=Hi hb;by_cases h:i<l.length
  . obtain⟨f,j⟩:∃f,l[i]?=some f:=⟨l[i],gE h⟩;obtain⟨b1,v,rfl,r,d1,d2⟩:=(p.o.below hb).spot j;obtain⟨b2,x,rfl,s,d3,d4⟩:=(q.o.below hb).spot j;have y:((i:Int)<(l.length:Int)):=oO;clear j hb r s;go_wp2_with fail;go_quiet (fail);go_wp2;go_roundw
    case rel=>exact⟨i+1,oO,by go_num,Im n.o _⟩
    case measure=>exact mI
  . obtain rfl:i=l.length:=oO;clear hb;go_wp2;go_ret;exact⟨rfl,n.o⟩
def Wl(k g h b1 b2 i:Vx)(c1 c2 c3 d1 d2 d3:Nat)(l:Ad)(x y:Vt)(w:Vz)(A:eO S2.cells w k c1 l)(k1:eO S2.cells w b1 d1 l)(B:nz w g x)(k2:nz w b2 x)(C:nz w h y)(D:nz w i y)(H:l.length<=1000000)(I:x.length<=1000000)(J:y.length<=1000000):
 Calls prog 14 #[.agg #[.slice k l.length c1,.slice g x.length c2,.slice h y.length c3],.agg #[.slice b1 l.length d1,.slice b2 x.length d2,.slice i y.length d3]] w fun e w'=>e=.returned (.bool true)/\Below w.heap.size w w':=by
 obtain⟨V,j⟩:=nm ((w.alloc (.cells #[.slice k l.length c1,.slice g x.length c2,.slice h y.length c3] 47)).alloc (.cells #[.slice b1 l.length d1,.slice b2 x.length d2,.slice i y.length d3] 47));obtain⟨E,c⟩:=nm w.heap.size;have b:Bl w V:=by rw[<-j];exact lN w _ _
 have r:SB V E 47 #[.slice k l.length c1,.slice g x.length c2,.slice h y.length c3]:=by rw[<-j,<-c];exact(cK w _ _).alloc _
 have s:SB V (E+1) 47 #[.slice b1 l.length d1,.slice b2 x.length d2,.slice i y.length d3]:=by rw[<-j,<-c];exact ww w _ _ _
 obtain⟨t,q⟩:=Ia (Wm k b1 c1 d1 l V (A.below b) (k1.below b) H) (⟨B.below b,k2.below b,C.below b,D.below b⟩:nz V g x/\nz V b2 x/\nz V h y/\nz V i y);obtain⟨F,-⟩:=zc r;obtain⟨G,-⟩:=zc s;obtain⟨d,f,m⟩:=Ib r s b;rw[<-j,<-c]at F G;obtain⟨K,u⟩:=Ia j c;clear j c b r s A k1 B k2 C D;go_enter func14,ntmps14;go_wp2_with fail;rw[K.o,u.o];go_fit t.o;rintro e w1 ⟨rfl,a⟩;obtain⟨n,v⟩:=Ia (m.o.trans (a.mono m.o.size)) (YG g h b2 i c2 c3 d2 d3 x y w1 (q.o.1.below a) (q.o.2.2.1.below a) (q.o.2.1.below a) (q.o.2.2.2.below a) I J);obtain⟨-,m0,-⟩:=zc (d.o.below a d.o.lt);obtain⟨-,L,-⟩:=zc (f.o.below a f.o.lt);obtain⟨-,-,M,-⟩:=zc (d.o.below a d.o.lt);obtain⟨-,-,N,-⟩:=zc (f.o.below a f.o.lt);clear a F G;go_wp2_with fail;go_fit v.o;rintro e w2 ⟨rfl,p⟩;have z:=Hi (n.o.trans (p.mono n.o.size));clear p m0 L M N;go_wp2;go_ret;exact⟨rfl,z.o⟩
def zJ(t cv:cW):Nat->Rat
 |0=>0
 |k+1=>zJ t cv k+t k*t k / (2*cv k)
def Xl(M L N a:Vx)(c1 c2 c3 cap K:Nat)(P:Ad)(d:Ap)(Q:Ak)(y:Am)(l t:cW)(w:Vz)(hg:jq w)(hf:ja w M L N c1 c2 c3 P d Q)(hr:lk w a y)(hl:y.length=d.length)(hn:d.length<=24)(ht:∀(i:Nat)(x:RT),y[i]?=some x->x.2.1=t i/\x.2.2<=K)(hc:∀(i:Nat)(b:B6),d[i]?=some b->il b.c.data.toList (l i)/\b.c.size<=1048576/\l i≠0)(g:K<1000000000):
 Calls prog 21 #[.agg #[.slice M P.length c1,.slice L d.length c2,.slice N Q.length c3],.slice a y.length cap] w (cS w (RF (zJ t l d.length) (24*(2*K+4194400)+1))):=by
 obtain⟨HF,HR,HL,HT,HC,HG⟩:=Ie hf hr hl ht hc hg;clear hf hr hl ht hc hg;obtain⟨q,r⟩:=nm w.heap.size;obtain⟨V,R⟩:=nm ((w.alloc (.cells #[.slice M P.length c1,.slice L d.length c2,.slice N Q.length c3] 26)).alloc (.cells #[.bool false,.slice none 0 0,.bool false,.slice none 0 0] 116));obtain⟨W,hW⟩:=nm (w.alloc (.cells #[.slice M P.length c1,.slice L d.length c2,.slice N Q.length c3] 26));have ai:=Ub R;have aj:=Ug R r;have S:W.heap.size=q+1:=by rw[<-hW,<-r];exact bH _ _
 have ak:O (cQ V (q+1) 0):=Hi (by rw[<-R,hW,<-S];exact Fy W);obtain⟨al,am⟩:=Ia R r;have a7:w.heap.size<=q:=oO;obtain⟨m,B⟩:=nm (2*K+4194400);rw[B];have an:=Hi B;clear R r B hW S;go_enter func21,ntmps21;go_wp2_with fail;rw[al.o,am.o];go_loopw [11] (fun iv wr=>∃k:Nat,k<=d.length/\iv=.int .i64 k/\cQ wr (q+1) (zJ t l k)/\Fits (zJ t l k) (k*m+1)/\SB wr q 26 #[.slice M P.length c1,.slice L d.length c2,.slice N Q.length c3]/\Below w.heap.size w wr) (fun iv _=>d.length - (intOf iv).toNat)
 case atStart=>exact⟨0,cJ _,rfl,ak.o,nr.mono oO,aj.o,ai.o⟩
 case round=>
  obtain⟨k,hk,rfl,C,D,E,f⟩:=hrel;by_cases ap:k<d.length
  .
   obtain⟨x,hx⟩:∃x,y[k]?=some x:=⟨y[k]'(oB HL.o),gE _⟩;obtain⟨b,hb⟩:∃b,d[k]?=some b:=⟨d[k],gE ap⟩;obtain⟨Yr,F⟩:=nm wr.drew;have n:Bl wr Yr:=by rw[<-F];exact(ac _ _).drew
   obtain⟨ab,ao,aq,ar,D0⟩:=(HR.o.below f).at hx;obtain⟨bb,bo,T,U,D1⟩:=(HF.o.b.row.below (f.trans (n.mono f.size))).cell _ _ (EO (sz:=6) (fun _=>rfl) d k b 2 (.string b.c) hb rfl);obtain⟨e1,e2⟩:=HT.o k x hx;obtain⟨G,X,au⟩:=HC.o k b hb;obtain⟨s,v,Y⟩:=Ib (f.trans (n.mono f.size)) (E.below n E.lt) (C.below n);have Z:O (RF (t k) K (.pointer (some ⟨x.1,0,none⟩)) Yr):=Hi (by
    have z:=(HR.o.below s.o).vs x (mO hx);rw[e1]at z
    exact⟨x.1,rfl,z.1,z.2.1.mono e2,oO⟩)
   have H:=Hi (cZ G (cZ (show b.c.size<=1073741824 by omega) ((G.oA X).mono (show 4*1048576+1<=4194305 by omega))));have av:O (2*l k≠0):=Hi (by grind);obtain⟨aw,ax,aa⟩:=Ib (HG.o.below s.o) F D;rw[<-gT]at D1;have ad:=Hi (cZ U D1);have p:O (K+K<274877906000/\2+4194305<274877906000/\K+K+(2+4194305)<274877906000/\K+K+(2+4194305)+1<=m/\k*m+1+m<274877906000):=Hi (by
    have z:=an.o;have h2:k*m<=24*m:=cD _ oO
    omega)
   have q1:((k:Int)<(d.length:Int)):=oO;have q2:((k:Int)<(y.length:Int)):=oB HL.o;have ay:=Hi T;subst aq;clear T;clear hx hb F n ar e1 e2 G X au C D E f U D1;go_wp2_with fail;refine ou 15 (fun j=>some (16+j)) ?_;rw[ax.o];clear D0;refine cV [] ?_;refine cV [] ?_;refine cV [] ?_;refine cV [] ?_;refine fP (φ:=RF (t k*t k) (K+K)) [2,3] (xF _ _) (fun w hb=>?_) ?_
   . intro K g;go_simp;exact fB (RF.mul (Z.o.below hb) (Z.o.below hb) p.o.1) g
   refine fP (φ:=RF 2 2) [] (xF _ _) (fun w hb=>?_) ?_
   . intro K g;go_simp;exact fB (Xn _) g
   refine cV [] ?_;refine gJ (c:=?_) [6] (fun w hb=>?_) ?_;rotate_left
   . intro K g;have d0:w.cell? ⟨q,1,none⟩=some (.slice L d.length c2):=by
      have h:=(v.o.below hb v.o.lt).cell 1
      simpa using h
     rw[ay.o]at d0;go_simp;exact g
   refine cV [] ?_;refine cV [7,8] ?_;refine cV [9] ?_;refine gJ (c:=?_) [10] (fun w hb=>?_) ?_;rotate_left
   . intro K g;have d0:=ce hb ad.o.1 ad.o.2;go_simp;exact g
   refine fP (φ:=RF (l k) 4194305) [11] (xF _ _) (fun w hb=>?_) ?_
   . intro K g;go_simp;exact fB (zO (aw.o.below hb) H.o.1 H.o.2.1 H.o.2.2 dD) g
   refine fP (φ:=RF (2*l k) (2+4194305)) [5,12] (xF _ _) (fun w hb=>?_) ?_
   . intro v1 z v2 h2;intro K g;go_simp;exact fB (RF.mul z h2 p.o.2.1) g
   refine fP (φ:=RF (t k*t k / (2*l k)) (K+K+(2+4194305))) [4,13] (xF _ _) (fun w hb=>?_) ?_
   . intro v1 z v2 h2;intro K g;go_simp;exact fB (RF.quo z h2 av.o p.o.2.2.1) g
   refine qr aL (by rfl) (by rfl) kK (fun u hb=>?_);simp only[nE,cH,bO,sR,Act.put,aU,cN,bX,Nat.reduceAdd,Nat.reduceBEq,gO,fS];intro y0 _ y1 _ y2 _ y3 _ y4 h4;intro K1 ae;obtain⟨bq,rfl,af,I,_⟩:=h4;have ag:=Hi (G7 (q+1) (q+1) bq (k*m+1) (K+K+(2+4194305)) (zJ t l k) (t k*t k / (2*l k)) u (Y.o.below hb).room (Y.o.below hb) af aa.o I (oB p.o)).1;obtain⟨az,A,a0⟩:=Ib I (s.o.trans (hb.mono s.o.size)) (v.o.below hb v.o.lt);clear af I hb;go_simp;go_fit ag.o;rintro e w6 ah;have a4:=Hi (iM.val ah);obtain⟨rfl,J,_⟩:=ah;obtain⟨a5,a6⟩:=Ia (A.o.trans (J.below (show w.heap.size<=q+1 by omega) A.o.size)) (a0.o.only J oO);refine ae _ _ ?_;clear ae J ag;go_wp2;go_roundw
   case rel=>
    refine⟨k+1,oO,(by go_num),?_,?_,a6.o,a5.o⟩
    . exact a4.o
    . exact(aa.o.add az.o).mono (by have:=p.o;rw[show (k+1)*m=k*m+m from gV _ _];omega)
   case measure=>exact mI
  . obtain rfl:k=d.length:=oO;have q2:¬((d.length:Int)<(y.length:Int)):=oB HL.o;go_wp2;go_ret;exact⟨_,rfl,f,q+1,rfl,C,D.mono (oB (cD m hn)),oO⟩
def OQ(n:Nat)(g:n<=1048576)(w:Vz):(Instr.makeSlice 81 (.int .i64 n) (.int .i64 n)).run prog w=.ok (.slice (some ⟨w.heap.size,0,.none⟩) n n) (w.alloc (.cells (List.replicate n (Value.pointer none)).toArray 63)):=by obtain⟨i,b,h⟩:=aZ.1 J8;simp only[fZ]at h;obtain⟨d,f,hb⟩:=h;have:=qJ w 81 63 i _ underlying81 b d .i64 .i64 n n oO oO (rO hb) oO;rw[fC,f,eP,N8]at this;exact this
structure rF (w:Vz) (B n K:Nat) (v:Ac) (ks:List KR) (xs:Aj):Prop where
 list:Grow w B 81 1 jy v ks.length (ks.map (KR.val n))
 len:ks.length=xs.length
 each:∀(i:Nat)(r:KR)(x:cW),ks[i]?=some r->xs[i]?=some x->PV w B r.g n K x r.ts
 apart:∀(i j:Nat)(a b:KR),i≠j->ks[i]?=some a->ks[j]?=some b->a.g≠b.g
section
variable {w w':Vz} {B n K:Nat} {v:Ac} {ks:List KR} {xs:Aj}
def rF.below(h:rF w B n K v ks xs)(hb:Bl w w'):rF w' B n K v ks xs:=⟨h.list.below hb,h.len,fun i r x b d=>(h.each i r x b d).below hb,h.apart⟩
def rF.nil(w:Vz)(B n K:Nat):rF w B n K (.slice none 0 0) [] []:=⟨pA _ _ _ _ _,rfl,fun i r x d=>(by simp at d),fun i j a b _ f=>(by simp at f)⟩
def rF.lt(h:rF w B n K v ks xs){r:KR}(d:r∈ ks):r.g<w.heap.size:=by obtain⟨i,b⟩:=dM d;obtain⟨x,f⟩:∃x,xs[i]?=some x:=⟨xs[i]'(oC ((gZ b).1) h.len),gE _⟩;exact(h.each i r x b f).blk.blk.lt
def PV.tK{g:Nat}{x:cW}{b:Am}{B' m:Nat}{j:Vv}(h:PV w B g n K x b)(d:Grow w B' 81 1 jy v m j)(f:w.grownBy w' v.ownBlock):PV w' B g n K x b:=by
 refine⟨⟨?_,fun t i=>⟨(h.blk.vs t i).1.fs (Fs.grown d f),(h.blk.vs t i).2⟩⟩,h.low,h.len,h.q⟩;have hb:=f.block g h.blk.blk.lt (fun e=>by
  obtain⟨C,hC,_⟩:=d.sb e.symm
  exact h.blk.blk.unlike hC FC rfl)
 have:=h.blk.blk;unfold SB at this ⊢;rw[hb];exact this
def rF.app{nb c:Nat}{r:KR}{x:cW}(h:rF w B n K v ks xs)(H:w.cell? ⟨nb,0,none⟩=some (r.val n))(I:PV w B r.g n K x r.ts)(p:∀k,k∈ ks->k.g≠r.g)(X:ks.length<=1000)(hB:B<=w.heap.size)(ty:Vr):
 ∃o w',sQ prog 79 ty v (.slice (some ⟨nb,0,none⟩) 1 c) w=.ok o w'/\rF w' B n K o (ks++ [r]) (xs++ [x])/\Below B w w'/\w.grownBy w' v.ownBlock/\(o.ownBlock=v.ownBlock∨o.ownBlock=some w.heap.size):=by
 obtain⟨i,J,L⟩:=aZ.1 PN;injection L with M D
 injection D with D N
 obtain⟨o,w',O,Q,A,R⟩:=h.list.app (P:=prog) (t:=79) (ty:=ty) underlying79 J M D N rfl dD (fun u q=>⟨none,0,0,by simpa [Value.cells] using q⟩) ⟨nb,0,none⟩ 1 c [r.val n] rfl (fun j u d=>by
  match j,d with
  |0,d=>
   obtain rfl:=aD d
   exact H) (fun u q=>by obtain rfl:=bE.1 q;rfl) (fun u q=>by obtain rfl:=bE.1 q;exact⟨_,_,_,rfl⟩) oO dD hB
 have f:∀(j:Nat)(t:KR),(ks++ [r])[j]?=some t->(j<ks.length/\ks[j]?=some t)∨(j=ks.length/\t=r):=fun j t l=>by
  by_cases d:j<ks.length
  . rw[aR d]at l
    exact .inl ⟨d,l⟩
  . have E:j=ks.length:=by have:=(gZ l).1;simp at this;omega
    subst E;rw[aX lZ,fA]at l;exact .inr ⟨rfl,(aD l).symm⟩
 refine⟨o,w',O,⟨?_,?_,fun j t y l C=>?_,fun j k a b s S hb=>?_⟩,GB A (fun g T=>(h.list.lt T).1) hB,A,R⟩
 . rw[aS,io,dH]
   exact Q
 . rw[aS,aS,h.len];rfl
 .
  rcases f j t l with ⟨d,l⟩|⟨rfl,rfl⟩
  . rw[aR (by rw[<-h.len];exact d)]at C
    exact(h.each j t y l C).tK h.list A
  . rw[aX (by rw[h.len];exact aV _),<-h.len,fA]at C;cases C;exact I.tK h.list A
 .
  rcases f j a S with ⟨d,z⟩|⟨U,V⟩
  .
   rcases f k b hb with ⟨hk,m⟩|⟨F,G⟩
   . exact h.apart j k a b s z m
   . rw[G]
     exact p a (mO z)
  .
   rcases f k b hb with ⟨hk,m⟩|⟨F,G⟩
   . rw[V]
     exact(p b (mO m)).symm
   . exact absurd (U.trans F.symm) s
def GR.tK{B' g m:Nat}{us r:Vv}{d:AC}(h:GR w B' g us d)(k:Grow w B 81 1 jy v m r)(f:w.grownBy w' v.ownBlock)(j:v.ownBlock≠some g):GR w' B' g us d:=
 ⟨h.blk.same (f.block g h.blk.lt (fun e=>j e.symm)),h.low,h.len,fun i u l o p=>(h.row i u l o p).keep (fun b hb=>by
   obtain⟨C,hC⟩:=(h.row i u l o p).ptr hb;exact f.block b hC.lt (fun e=>by
    obtain⟨D,s,_⟩:=k.sb e.symm
    exact hC.unlike s FC rfl)) (fun b q t=>t.fs (Fs.grown k f)),h.apart⟩
def rF.pq(h:rF w B n K v ks xs)(Z:0<ks.length)(hB:B<=w.heap.size)(D:∀x,x∈ xs->∀i,n<=i->x i=0):
 ∃(g cap:Nat)(Q:Vv)(rs:AF),v=.slice (some ⟨g,0,none⟩) ks.length cap/\ks.length<=cap/\rs.length=ks.length/\PQ w w B g n K Q rs [] (.slice none 0 0)/\rs.map PR.q=xs:=by
 rcases h.list.own.2 with ⟨_,e⟩|⟨g,cap,F,rfl,hb,M,G,R,S,l⟩
 . omega
 rw[eP]at l;have o:∀r,r∈ ks->∃x,x∈ xs/\PV w B r.g n K x r.ts:=fun r d=>by obtain⟨i,p⟩:=dM d;obtain⟨x,D⟩:∃x,xs[i]?=some x:=⟨xs[i]'(oC ((gZ p).1) h.len),gE _⟩;exact⟨x,mO D,h.each i r x p D⟩
 have H:∀I:Am,(I.map (fun t:RT=>(t.1,t.2.1,K))).map lS=I.map lS:=fun I=>by rw[kG];rfl
 have A:(ks.map (fun r=>(⟨r.g,n,r.ts.map (fun t:RT=>(t.1,t.2.1,K)),[]⟩:PR))).map PR.val=ks.map (KR.val n):=by
  rw[kG];refine mg fun r d=>?_
  obtain⟨x,_,f⟩:=o r d
  show Value.slice _ (r.ts.map (fun t:RT=>(t.1,t.2.1,K))).length _=_
  rw[bF,f.len];rfl
 refine⟨g,cap,F.toList.drop ks.length,ks.map (fun r=>⟨r.g,n,r.ts.map (fun t:RT=>(t.1,t.2.1,K)),[]⟩),rfl,G,by rw[bF],⟨⟨?_,fun u J=>?_,hb,fun r d=>?_,fun r d t z=>?_,fun i j a b L N hb=>?_⟩,fun r d=>?_,fun r d t z=>?_,pA _ _ _ _ _,ac _ _,hB⟩,?_⟩
 . rw[A,<-l,ux]
   exact M
 .
  obtain⟨C,hC,T⟩:=h.list.all g rfl;rw[M]at hC;injection hC with hC
  injection hC with hC _ _
  subst hC;exact T u (fR J)
 .
  obtain⟨k,hk,rfl⟩:=bZ.1 d;obtain⟨x,_,f⟩:=o k hk;refine⟨?_,f.low,(fun u J=>by cases J),by rw[bF,f.len];exact aV _⟩
  show SB w k.g _ ((k.ts.map (fun t:RT=>(t.1,t.2.1,K))).map lS++ []).toArray
  rw[H,mU];exact f.blk.blk
 . obtain⟨k,hk,rfl⟩:=bZ.1 d;obtain⟨x,_,f⟩:=o k hk;obtain⟨s,O,rfl⟩:=bZ.1 z;obtain⟨i,p⟩:=dM O;obtain⟨U,V,X⟩:=f.blk.vs s O;have P:=(f.q i s p).2;exact⟨U,V.mono P,aF X P⟩
 . rw[aP]at N hb;obtain⟨k,hk,rfl⟩:=aZ.1 N;obtain⟨m,Y,rfl⟩:=aZ.1 hb;exact h.apart i j k m L hk Y
 .
  obtain⟨k,hk,rfl⟩:=bZ.1 d;obtain⟨x,_,f⟩:=o k hk
  show (k.ts.map _).length=n
  rw[bF,f.len]
 . obtain⟨k,hk,rfl⟩:=bZ.1 d;obtain⟨s,_,rfl⟩:=bZ.1 z;rfl
 .
  rw[kG];apply fK;intro i;rw[aP];rcases bB i ks.length with p|p
  .
   obtain⟨r,d⟩:∃r,ks[i]?=some r:=⟨_,gE p⟩;obtain⟨x,y⟩:∃x,xs[i]?=some x:=⟨xs[i]'(oB h.len),gE _⟩;have f:=h.each i r x d y;rw[d,y];refine congrArg some (funext fun c=>?_)
   show oH (r.ts.map (fun t:RT=>(t.1,t.2.1,K))) c=x c
   rcases bB c n with E|E
   . obtain⟨t,z⟩:∃t,r.ts[c]?=some t:=⟨r.ts[c]'(by rw[f.len];exact E),gE _⟩;rw[Dv (show (r.ts.map (fun t:RT=>(t.1,t.2.1,K)))[c]?=some (t.1,t.2.1,K) by rw[aP,z];rfl)];exact(f.q c t z).1
   . rw[ND (by rw[bF,f.len];exact E),D x (mO y) c E]
  . rw[aO p,aO (by rw[<-h.len];exact p)]
    rfl
def PV.copy{g o dl dc c:Nat}{a:Vx}{x y:cW}{f us:Am}(h:PV w B g n K x f)(p:lk w a us)(hl:o+us.length<=n)(G:∀(i:Nat)(t:RT),us[i]?=some t->t.2.1=y i/\t.2.2<=K)(H:us.length<=dl):
 ∃(w':Vz)(C:Am),Sem.run prog (Builtin.copy_ #[81,81] 3 #[.slice (some ⟨g,o,none⟩) dl dc,.slice a us.length c]) w=.ok (.int .i64 us.length) w'/\PV w' B g n K (fun i=>if o<=i/\i<o+us.length then y (i - o) else x i) C/\cE g w w':=by
 have l:(prog.info? 63).map (·.size)=some 1:=kK;rcases eE us.length with D|D
 .
  refine⟨w,f,?_,⟨h.blk,h.low,h.len,fun i t d=>?_⟩,cX _ _⟩
  . rw[D]
    exact run_copy_none w _ _ _ _ _ _ dl dc 0 c underlying81 l sS
  . rw[aH oO]
    exact h.q i t d
 .
  obtain⟨t0,E⟩:∃t,us[0]?=some t:=⟨_,gE D⟩;obtain⟨b,z,rfl,_,_⟩:=p.at E;have m:=run_copy_row (P:=prog) w 81 81 3 63 g o dl dc ⟨b,z,none⟩ us.length c (f.map lS).toArray 63 (us.map lS) underlying81 l h.blk.blk
   (by rw[bF];exact(eH H).symm) (fun j u I=>by
     obtain⟨J,A,e,_,L⟩:=p.row.cell j u I;obtain⟨rfl,rfl⟩:b=J/\z=A:=sU e;rw[xA]
     exact L) (by rw[bF,lH,bF,h.len];exact hl) (fun u p=>NZ us u p)
  have hC:((f.map lS).toArray.toList.take o++us.map lS++(f.map lS).toArray.toList.drop (o+(us.map lS).length)).toArray=((f.take o++us++f.drop (o+us.length)).map lS).toArray:=by rw[dH,dH,List.map_take,List.map_drop,bF]
  rw[hC,bF]at m;have F:cE g w (w.setRow g ((f.take o++us++f.drop (o+us.length)).map lS).toArray):=⟨rfl,rfl,rfl,by rw[setRow_size];exact aV _,fun k _ hk=>setRow_other _ _ _ _ hk⟩;have r:=FQ F h.blk.blk (fun u p=>Du f u (sU p));have s:(f.take o).length=o:=by rw[cI,h.len];omega
  refine⟨_,f.take o++us++f.drop (o+us.length),m,⟨⟨wP _ _ _ _ _ _ h.blk.blk,fun t d=>?_⟩,h.low,?_,fun i t d=>?_⟩,F⟩
  .
   rcases bD.1 d with d|d
   . rcases bD.1 d with d|d
     . exact(h.blk.vs.fp r) t (dR d)
     . exact(p.vs.fp r) t d
   . exact(h.blk.vs.fp r) t (fR d)
  . rw[aS,aS,s,ix,h.len]
    omega
  .
   by_cases M:i<o
   . rw[aH oO];rw[lI,aR oO,aW M]at d;exact h.q i t d
   . by_cases N:i<o+us.length
     . rw[aN oO];rw[aR (by rw[aS];omega),aX oO,s]at d;exact G _ t d
     . rw[aH oO];rw[aX (by rw[aS];omega),aS,s,fN,show o+us.length+(i - (o+us.length))=i by omega]at d;exact h.q i t d
end
def Xk(b o:Nat)(t:Vr)(C:Vw)(w:Vz)(d:SB w b t C)(f:ol C)(h:o+1<C.size):Calls prog 137 #[.pointer (some ⟨b,o,none⟩),.int .i64 (-1)] w (jO w b o t C (-1)):=by obtain⟨g,i⟩:=Ia d f;have k:IntKind.u64.wrap (-1)=18446744073709551615:=dD;have m:IntKind.u64.wrap (-18446744073709551615)=1:=dD;clear d f;go_enter func137,ntmps137;go_wp2_with fail;refine(DG 1 _ dD dD).mono ?_;rintro e w1 ⟨⟨a,cap,l,rfl,j,_⟩,hb⟩;go_wp2_with fail;refine(DA b o t C true a cap l 1 (-1) w1 (g.o.below hb g.o.lt) i.o h j dD).mono ?_;rintro e w2 ⟨rfl,hl⟩;go_wp2;go_ret;exact FP (qU hb) ⟨rfl,_,_,_,hl⟩
def Xj(w:Vz):Calls prog 80 #[.int .i64 (-1)] w (BL w (-1)):=by go_enter func80,ntmps80;go_wp2_with fail;refine(Xk w.heap.size 0 114 _ _ (cK w 114 _) sd sS).mono ?_;rintro e w2 ⟨rfl,a,cap,l,hl⟩;go_wp2;go_ret;exact⟨⟨w.heap.size,a,cap,l,rfl,aV _,hl.sb,hl.num⟩,fU ((ac _ w).alloc lZ _) hl.only lZ⟩
def Xi(x:Nat)(w:Vz)(D:(gI.room x).holds w):Calls prog 72 #[.pointer (some ⟨x,0,none⟩),.int .i64 (-1)] w (iM w x (-1)):=by have J:=Hi D;clear D;go_enter func72,ntmps72;go_wp2_with fail;refine(Xj _).mono ?_;rintro e w1 ⟨⟨b1,E,f,y,rfl,i,b,j⟩,k⟩;obtain⟨l,m⟩:=Ia (show iF w1 b1 0 (-1) E f y from ⟨by rw[b.cell];rfl,by rw[b.cell];rfl,j,b.lt⟩) k;clear i b j k;go_wp2_with fail;refine(EK 1 _ dD dD).mono ?_;rintro e w2 ⟨⟨b2,F,g,z,rfl,p,d,q⟩,r⟩;obtain⟨s,t⟩:=Ia (show iF w2 b2 0 1 F g z from ⟨by rw[d.cell];rfl,by rw[d.cell];rfl,q,d.lt⟩) r;clear p d q r;go_wp2_with fail;obtain⟨L,M,N,O,A,G⟩:=J.o;have h:=m.o.trans (t.o.mono m.o.size);have H:y.length<=64:=l.o.num.jd dD;have I:z.length<=64:=s.o.num.jd dD;refine(H4 x L M N O b1 0 (-1) E f y b2 0 1 F g z _ (A.below h A.lt) G (l.o.below t.o) s.o dD oO oO).mono ?_;rintro e S u;have P:=Hi (iM.of (qU h) u);obtain⟨rfl,C,Q⟩:=u;clear C Q A G h;go_wp2;go_ret;have R:mkRat (-1) (1:Int).natAbs=(-1:Rat):=dD;exact R ▸ P.o
def Xh(w:Vz):Calls prog 33 #[.int .i64 (-1)] w (cS w (RF (-1) 1)):=by have f:=Hi (Xi w.heap.size _ (EV w));go_enter func33,ntmps33;go_wp2_with fail;refine f.o.mono ?_;rintro e w1 b;have g:=Hi ((iM.new b).qw (k:=1) (by exact⟨dD,dD⟩) dD);obtain⟨rfl,d,h⟩:=b;clear d h f;go_wp2;go_ret;exact g.o
def PV.as{x y:cW}(h:PV w B g n K x b)(e:∀i,i<n->x i=y i):PV w B g n K y b:=⟨h.blk,h.low,h.len,fun i t d=>by
 have:=h.q i t d;rw[e i (by rw[<-h.len];exact(gZ d).1)]at this
 exact this⟩
def PV.A4{b:Nat}{x:cW}{d:Am}{q:Rat}{v:Ac}(h:PV w B g n K x d)(j:RF q k v w):RF q k v (w.setCell ⟨g,i,none⟩ (.pointer (some ⟨b,0,none⟩))):=by obtain⟨c,e,r,f⟩:=j;exact⟨c,e,r.fp (FQ ((cX g w).setCell _ _) h.blk.blk (fun u l=>Du d u (sU l))),f⟩
section
variable {W nb nh:Nat} {B:Ae} {c e hb a:cW}
def Xg{r:Nat}{q:Rat}(f:r<W)(g:q=a r):∀i,i<W+(nb+nh)+1->qQ (fun i=>if W<=i/\i<W+(nb+nh) then B r (i - W) else 0) (W+(nb+nh)) q i=Giv.gvR W nb nh B c e hb a r i:=fun i h=>by
 unfold qQ Giv.gvR;rw[aN f];by_cases b:i=W+(nb+nh)
 . rw[aN b,aH oO,aH oO,aN b,g]
 .
  rw[aH b];dsimp only;by_cases d:i<W
  . rw[aH oO,aN d]
  . rw[aN oO,aH d,aN oO]
def Xf{r:Nat}{x:cW}{q:Rat}(h:r<nb)(f:∀i,i<W->x i= -(B i r))(g:q=c r*e r):∀i,i<W+(nb+nh)+1->qQ (qQ (fun i=>if i<W then c r*x i else 0) (W+r) (-1)) (W+(nb+nh)) q i=Giv.gvR W nb nh B c e hb a (W+r) i:=fun i j=>by
 unfold qQ Giv.gvR;rw[aH (show ¬W+r<W by omega),aN (show W+r<W+nb by omega),fI];by_cases d:i=W+(nb+nh)
 . rw[aN d,aH oO,aH oO,aN d,g]
 .
  rw[aH d];dsimp only;by_cases b:i<W
  . rw[aH oO,aN b,aN b,f i b]
  . rw[aH b,aH b,aH d]
def Xe{r:Nat}{x:cW}{q:Rat}(h:r<nh)(f:∀i,i<W->x i=B i (nb+r))(g:q=hb r):∀i,i<W+(nb+nh)+1->qQ (fun i=>if 0<=i/\i<0+W then x (i - 0) else 0) (W+(nb+nh)) q i=Giv.gvR W nb nh B c e hb a (W+(nb+r)) i:=fun i j=>by
 unfold qQ Giv.gvR;rw[aH (show ¬W+(nb+r)<W by omega),aH (show ¬W+(nb+r)<W+nb by omega),show W+(nb+r) - W - nb=r by omega,show W+(nb+r) - W=nb+r by omega];by_cases b:i=W+(nb+nh)
 . rw[aN b,aH oO,aN b,g]
 .
  rw[aH b,aH b];dsimp only;by_cases d:i<W
  . rw[aN oO,aN d,Nat.sub_zero,f i d]
  . rw[aH oO,aH d]
end
def jg.null(h:jg w g n k b)(hk:k<n):w.cell? ⟨g,k,none⟩=some (.pointer none):=by rw[h.blk.cell];have e:(b.map lS++List.replicate (n - k) (Value.pointer none)).toArray[k]?=(b.map lS++List.replicate (n - k) (Value.pointer none))[k]?:=sS;rw[e,aX (by rw[bF,h.len];exact aV _),bF,h.len,fA,fW,aN oO]
def jD.xl{c:Nat}{a:Vx}(h:jD w B (.slice a n c) b):lk w a b:=by
 obtain⟨g,i,e,d⟩:=h.row;injection e with f _ _
 subst f;exact d
def yQ(W nb nh:Nat)(vb:Aa)(vh:Vy)(cv ev bv a:cW)(r:Nat):cW:=Giv.gvR W nb nh (dP vb nb vh) cv ev bv a r
def OP{W nb nh:Nat}{B:Ae}{c e hb a:cW}{r:Nat}(b:r<W+(nb+nh))(d:W+(nb+nh)<i):Giv.gvR W nb nh B c e hb a r i=0:=by
 unfold Giv.gvR
 split
 . rw[aH oO,aH oO,aH oO]
 .
  split
  . rw[aH oO,aH oO,aH oO]
  . rw[aH oO,aH oO]
def Wy{b:Nat}(h:66*b+600<=K):(64+1)*(2 ^ b*(2*((64+1)*2 ^ b)) ^ 64)*2 ^ b<2 ^ K:=by
 have d:2*((64+1)*2 ^ b)<=2 ^ (b+8):=by rw[eG];have:0<2 ^ b:=gU dD;omega
 have f:(2*((64+1)*2 ^ b)) ^ 64<=2 ^ ((b+8)*64):=by rw[uY];exact iJ d 64
 have g:(64+1)*(2 ^ b*(2*((64+1)*2 ^ b)) ^ 64)*2 ^ b<=2 ^ 7*(2 ^ b*2 ^ ((b+8)*64))*2 ^ b:=
  cD _ (fO dD (cR _ f))
 refine bQ g ?_;rw[<-eG,<-eG,<-eG];exact pZ dD oO
end Go.Proofs.YtfgclhpgdanmfaaGreatDoor
