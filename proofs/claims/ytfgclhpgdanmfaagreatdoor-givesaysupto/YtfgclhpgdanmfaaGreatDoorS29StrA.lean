import Derived.Test.YtfgclhpgdanmfaaGreatDoorS28RowF
import Derived.BigRegion
namespace Go.Proofs.YtfgclhpgdanmfaaGreatDoor
set_option linter.defProp false
open Go.RowKit
open Go.Proofs.Tryz
set_option linter.unusedSimpArgs false
set_option linter.unusedVariables false
set_option maxHeartbeats 8000000
set_option maxRecDepth 1000000
variable{w w':Vz}{B K N P W b c i j k m n:Nat}{u v:Ac}{p:Rat}{a:Vy}{L M:Aj}{d:Ap}{x:Int}{t:Vr}
section
open Go.ChangeShapes Go.WideShapes Go.ChangeAt Go.RowKit
def CM{s:Vs}{l:Vu}(h:s.data.toList=l):s=⟨l.toArray⟩:=by obtain⟨⟨m⟩⟩:=s;simp at h;subst h;rfl
def Dn:prog.globalNamed "rafter/raftersame.Spot" =some 1:=kK
def yR:(prog.globals[1]?).map (·.type)=some 34:=kK
def Gv:prog.globalNamed "rafter/raftersame.Bar" =some 2:=kK
def Bv:(prog.globals[2]?).map (·.type)=some 72:=kK
def Dp:prog.globalNamed "rafter/raftersame.Hold" =some 3:=kK
def yT:(prog.globals[3]?).map (·.type)=some 74:=kK
def Sm{W:Vz}{rest:AD}(h:laidMet prog (("rafter/raftersame.Spot",Rows.laid_rafter_raftersame_Spot) :: rest) W):W.cell? ⟨1,0,none⟩=some (.string ⟨#[109,97,114,107]⟩)/\W.cell? ⟨1,1,none⟩=some (.string ⟨#[]⟩):=by
 obtain⟨o,⟨g,t,f,d,p,q,j,k,a,l,_,_⟩,_⟩:=h;obtain rfl:=aD (Dn.symm.trans j);obtain rfl:=aD (yR.symm.trans k);obtain⟨x,y,b,e,_⟩:=Lg underlying34 underlying32 GZ CN rfl rfl rfl rfl l;simp only[Rows.laid_rafter_raftersame_Spot,u9,iV,u7,up,jE]at e;obtain⟨m,n⟩:=e;have c:∀i,W.cell? ⟨1,i,none⟩=f.toList[i]?:=fun i=>by rw[uX Dn a i];simp
 rw[b]at c;refine⟨?_,?_⟩
 . rw[c 0,<-CM m.symm];rfl
 . rw[c 1,<-CM n.symm];rfl
def Sl{W:Vz}{rest:AD}(h:laidMet prog (("rafter/raftersame.Bar",Rows.laid_rafter_raftersame_Bar) :: rest) W):
 W.cell? ⟨2,0,none⟩=some (.int .i64 (-9))/\W.cell? ⟨2,1,none⟩=some (.int .i64 0)/\W.cell? ⟨2,2,none⟩=some (.string ⟨#[]⟩)/\W.cell? ⟨2,3,none⟩=some (.string ⟨#[]⟩)/\W.cell? ⟨2,4,none⟩=some (.string ⟨#[]⟩)/\W.cell? ⟨2,5,none⟩=some (.string ⟨#[]⟩):=by
 obtain⟨w,⟨g,t,j,e,p,q,k,l,a,m,_,_⟩,_⟩:=h;obtain rfl:=aD (Gv.symm.trans k);obtain rfl:=aD (Bv.symm.trans l);obtain⟨b,d,f⟩:=NS underlying72 underlying32 underlying3 JZ CN l7 rfl rfl rfl rfl rfl rfl rfl rfl rfl rfl rfl rfl m;simp only[Rows.laid_rafter_raftersame_Bar,uB,mh,u9,iV,u7,up,Mg,uW,jE]at f;obtain⟨n,o,r,s,u,v⟩:=f;have c:∀i,W.cell? ⟨2,i,none⟩=j.toList[i]?:=fun i=>by rw[uX Gv a i];simp
 rw[d]at c;refine⟨?_,?_,?_,?_,?_,?_⟩
 . rw[c 0,n];rfl
 . rw[c 1,o];rfl
 . rw[c 2,<-CM r.symm];rfl
 . rw[c 3,<-CM s.symm];rfl
 . rw[c 4,<-CM u.symm];rfl
 . rw[c 5,<-CM v.symm];rfl
def Sk{W:Vz}{rest:AD}(h:laidMet prog (("rafter/raftersame.Hold",Rows.laid_rafter_raftersame_Hold) :: rest) W):W.cell? ⟨3,0,none⟩=some (.int .i64 (-9))/\W.cell? ⟨3,1,none⟩=some (.int .i64 0)/\W.cell? ⟨3,2,none⟩=some (.string ⟨#[]⟩):=by
 obtain⟨s,⟨g,t,j,e,p,q,k,l,a,m,_,_⟩,_⟩:=h;obtain rfl:=aD (Dp.symm.trans k);obtain rfl:=aD (yT.symm.trans l);obtain⟨b,d,f⟩:=NR underlying74 underlying32 underlying3 underlying3 JY CN l7 l7 rfl rfl rfl rfl rfl rfl m;simp only[Rows.laid_rafter_raftersame_Hold,q8,mh,u9,iV,u7,up,Mg,uW,jE]at f;obtain⟨n,o,r⟩:=f;have c:∀i,W.cell? ⟨3,i,none⟩=j.toList[i]?:=fun i=>by rw[uX Dp a i];simp
 rw[d]at c;refine⟨?_,?_,?_⟩
 . rw[c 0,n];rfl
 . rw[c 1,o];rfl
 . rw[c 2,<-CM r.symm];rfl
def Sj{W:Vz}{rest:AD}(h:laidMet prog (("rafter/raftersame.Spot",Rows.laid_rafter_raftersame_Spot) :: ("rafter/raftersame.Bar",Rows.laid_rafter_raftersame_Bar) :: ("rafter/raftersame.Hold",Rows.laid_rafter_raftersame_Hold) :: rest) W):kS W:=by obtain⟨a,b⟩:=Sm h;obtain⟨c,b1,b2,d,e,f⟩:=Sl (wW h);obtain⟨g,i,j⟩:=Sk (wW (wW h));exact⟨a,b,c,b1,b2,d,e,f,g,i,j⟩
end
def mM(c:Nat):cW:=fun i=>if i=c then 1 else 0
def vf:Nat->(Nat->Rat)->Rat
 |0,_=>0
 |n+1,f=>vf n f+f n
theorem NN:∀(n:Nat)(f:AO),(∀p,p<n->f p=0)->vf n f=0
 |0,_,_=>rfl
 |n+1,f,h=>by rw[vf,NN n f (fun p a=>h p oO),h n oO];grind
theorem KC:∀(n:Nat)(f:AO)(a:Nat),a<n->(∀p,p<n->p≠a->f p=0)->vf n f=f a
 |n+1,f,a,ha,h=>by
  rw[vf];by_cases e:a=n
  . subst e
    rw[NN a f (fun p b=>h p oO oO),Rat.zero_add]
  . rw[KC n f a oO (fun p b=>h p oO),h n oO oO,qO]
theorem NM:∀(n:Nat)(f:AO)(a b:Nat),a<n->b<n->a≠b->(∀p,p<n->p≠a->p≠b->f p=0)->vf n f=f a+f b
 |n+1,f,a,b,ha,hb,hab,h=>by
  rw[vf];by_cases e:a=n
  . subst e;rw[KC a f b oO (fun p d c=>h p oO oO c)];grind
  .
   by_cases g:b=n
   . subst g
     rw[KC b f a oO (fun p d c=>h p oO c oO)]
   . rw[NM n f a b oO oO hab (fun p d=>h p oO),h n oO oO oO,qO]
def GB(h:w.grownBy w' v.ownBlock)(a:∀g,v.ownBlock=some g->B<=g)(hB:B<=w.heap.size):Below B w w':=
 ⟨h.os,h.tape,h.output,h.size,fun b hb=>h.block b oO (fun e=>by have:=a b e.symm;omega)⟩
def S2.none:S2:=⟨⟨#[]⟩,⟨#[]⟩⟩
def Rr(n:Nat):madeCells (Value.cells (.agg #[.string ⟨#[]⟩,.string ⟨#[]⟩])) (n*2)=((List.replicate n S2.none).flatMap S2.cells).toArray:=by
 apply tT;apply fK;intro i;by_cases d:i<n*2
 .
  have b:(List.replicate n S2.none)[i / 2]?=some S2.none:=by rw[fW,aN oO]
  have a:i % 2=0∨i % 2=1:=oO;have e:Value.cells (.agg #[.string ⟨#[]⟩,.string ⟨#[]⟩])=#[.string ⟨#[]⟩,.string ⟨#[]⟩]:=by rfl
  have f:i / 2*2+i % 2=i:=oO;have g:(madeCells (Value.cells (.agg #[.string ⟨#[]⟩,.string ⟨#[]⟩])) (n*2)).toList[i]?=some ((#[Value.string ⟨#[]⟩,.string ⟨#[]⟩]:Array Value)[i % 2]!):=by rw[e];simp[madeCells,d]
  rw[g];have c:∀u,(S2.cells S2.none)[i % 2]?=some u->((List.replicate n S2.none).flatMap S2.cells)[i]?=some u:=fun u h=>by have:=EO (sz:=2) (fun _=>rfl) _ _ _ _ _ b h;rw[f]at this;exact this
  simp only[ik];rcases a with a|a
  all_goals
   rw[a]at c ⊢;exact(c _ rfl).symm
 . have b:((List.replicate n S2.none).flatMap S2.cells).length=n*2:=by rw[xz (sz:=2) (fun _=>rfl)];simp
   have j:=wN (Value.cells (.agg #[.string ⟨#[]⟩,.string ⟨#[]⟩])) (n*2);rw[aO (by rw[qL,j];omega),aO (by simp only[ik];rw[b];omega)]
def Rq:(prog.info? 34).map (fun i=>(i.zero,i.size,i.bytes))=some (some (.agg #[.string ⟨#[]⟩,.string ⟨#[]⟩]),2,32):=kK
def Rp(n:Nat)(d:n<=1048576)(w:Vz):(Instr.makeSlice 22 (.int .i64 n) (.int .i64 n)).run prog w=.ok (.slice (some ⟨w.heap.size,0,.none⟩) n n) (w.alloc (.cells ((List.replicate n S2.none).flatMap S2.cells).toArray 34)):=by obtain⟨i,a,h⟩:=aZ.1 Rq;simp only[fZ]at h;obtain⟨b,c,hb⟩:=h;have:=qJ w 22 34 i _ underlying22 a b .i64 .i64 n n oO oO (rO hb) oO;rw[fC,c,Rr]at this;exact this
theorem Nh:∀(a:Ad)(k:Nat)(e:S2),k<a.length->(a.set k e).flatMap S2.cells=((a.flatMap S2.cells).set (k*2) (.string e.x)).set (k*2+1) (.string e.y)
 | [],k,e,h=>by simp at h
 |t :: l,0,e,_=>by simp[S2.cells]
 |t :: l,k+1,e,h=>by have b:=Nh l k e (sU h);rw[bX,fJ,b,fJ];simp only[S2.cells,bO,cH];rw[show (k+1)*2=k*2+1+1 by omega];simp only[bX,gT]
def mQ(x:cW)(ss:Ad):Prop:=∀(i:Nat)(s:S2),ss[i]?=some s->iK s.x.data.toList (x (2*i))/\iK s.y.data.toList (x (2*i+1))
def VY(a:Vx)(cap n K:Nat)(r:MR)(w:Vz)(z:jq w)(h:vw w (2*n) K r)(ad:r.a=a)(ae:r.cap=cap)(hK:K<=274877906944)(hn:n<=10):
 Calls prog 49 #[.slice a (2*n) cap] w fun e w'=>(∃(g:Nat)(f:Ad),e=.returned (.slice (some ⟨g,0,none⟩) n n)/\f.length=n/\SB w' g 34 (f.flatMap S2.cells).toArray/\mQ r.q f/\w.heap.size<=g)/\Below w.heap.size w w':=by
 subst ad;subst ae;obtain⟨H,af⟩:=Ia h z;have I:=fun w=>Rp n oO w
 obtain⟨MC,D⟩:=nm (((List.replicate n S2.none).flatMap S2.cells).toArray);rw[D]at I;have ag:=Hi D;have az:((2*n:Nat):Int).tdiv 2=(n:Int):=by rw[nw oO];omega
 have a0:IntKind.i64.wrap (n:Int)=(n:Int):=wrap_i64 _ oO oO;clear h z D;go_enter func49,ntmps49;go_wp2_with fail;clear I;obtain⟨g,z⟩:=nm w.heap.size;obtain⟨V,hV⟩:=nm (w.alloc (.cells MC 34));have ah:O (Below g w V):=Hi (by rw[<-hV,<-z];exact(ac _ _).alloc lZ _);have ai:O (SB V g 34 ((List.replicate n S2.none).flatMap S2.cells).toArray):=Hi (by rw[<-hV,<-z,ag.o];exact cK w _ _)
 try rw[hV]
 try rw[z]
 clear hV;go_loopw [11] (fun i wr=>∃(k:Nat)(f:Ad),k<=n/\i=.int .i64 k/\f.length=n/\SB wr g 34 (f.flatMap S2.cells).toArray/\(∀(i:Nat)(s:S2),i<k->f[i]?=some s->iK s.x.data.toList (r.q (2*i))/\iK s.y.data.toList (r.q (2*i+1)))/\Below g w wr) (fun i _=>n - (intOf i).toNat)
 case atStart=>exact⟨0,_,oO,rfl,sS,ai.o,fun i s hi=>oO,ah.o⟩
 case round=>
  obtain⟨k,f,hk,rfl,J,E,A,hb⟩:=hrel;obtain⟨HB,l,HA⟩:=Ib hb E A;have L:=E.lt;have b:=Hi J;clear hb E A J;by_cases a1:k<n
  .
   have m:Below w.heap.size w wr:=by rw[z];exact HB.o
   have M:=H.o.len;obtain⟨t,N⟩:∃t,r.ts[2*k]?=some t:=⟨r.ts[2*k]' oO,gE _⟩;obtain⟨u,hu⟩:∃u,r.ts[2*k+1]?=some u:=⟨r.ts[2*k+1]' oO,gE _⟩;have c:=H.o.row.below m;obtain⟨fb,aj,F,a2,d0,d1,d2⟩:=c.at N;obtain⟨P,Q,ak,al,R,am,an,ao,S⟩:=Ih (c.get N) hu (H.o.sz t (mO N)) (H.o.sz u (mO hu)) (af.o.below m) (nQ N) (nQ hu) m (fun v=>Fu k v oO);have T:=Hi (fun v=>Ft k v oO);have q1:((k:Int)<(n:Int)):=oO;have q2:((2*k:Nat):Int)<((2*n:Nat):Int):=oO;have q3:((2*k+1:Nat):Int)<((2*n:Nat):Int):=oO;have ek:(2*(k:Int))=((2*k:Nat):Int):=oO;have U:(2*(k:Int)+1)=((2*k+1:Nat):Int):=oO;simp only[ek]at S;simp only[U]at T;obtain⟨s0,W⟩:∃s0,f[k]?=some s0:=⟨f[k]'(oB b.o),gE _⟩;obtain⟨ap,aq⟩:=Ia W F;rw[F];clear N m W M c hu ek U F;go_wp2_with fail;go_fit (S.o wr);rintro e w1 ⟨rfl,rfl⟩;go_wp2_with fail;go_fit (I2 (R.o.tab (by unfold uc;kernel_rfl)) P.o.1 (P.o.2.1.mono ak.o) hK);rintro e w2 ⟨⟨s,rfl,X⟩,Y⟩;obtain⟨ar,j⟩:=Ia X Y;clear X Y d0 d1 d2;go_wp2_with fail;go_fit (T.o w2);rintro e w3 ⟨rfl,rfl⟩;have c:=(H.o.row.below ao.o).below j.o;obtain⟨au,Z,B,ay,d0,d1,d2⟩:=c.at Q.o;have aa:=Hi (c.get Q.o);obtain⟨e1,e2⟩:fb=au/\aj=Z:=by
    have:=aq.o.symm.trans B
    simpa using this
   subst e1;subst e2;clear c B;go_wp2_with fail;go_fit (I2 ((R.o.below j.o).tab (by unfold uc;kernel_rfl)) aa.o.1 (aa.o.2.1.mono al.o) hK);rintro e w4 ⟨⟨s',rfl,C⟩,G⟩;have ab:=Hi C;obtain⟨av,d⟩:=Ia G ((l.o.below j.o l.o.lt).below G (l.o.below j.o l.o.lt).lt);have f0:=d.o.free (k*2);have f1:=d.o.free (k*2+1);have hA:eO S2.cells w4 (some ⟨g,0,none⟩) n f:=d.o.tL rfl (oB b.o);obtain⟨bb,oo,aw,_,t0,t1⟩:=hA.spot ap.o;cases aw;simp only[cC]at t0 t1;clear C G d0 d1 d2 hA;go_wp2;go_roundw
   case rel=>
    refine⟨k+1,f.set k ⟨s,s'⟩,oO,by go_num,by rw[aQ];exact b.o,?_,fun i y hi hy=>?_,(((HB.o.trans (j.o.mono (dO L))).trans (av.o.mono (aE (dO L) j.o.size))).setCell (p:=⟨g,k*2,none⟩) lZ _).setCell (p:=⟨g,k*2+1,none⟩) lZ _⟩
    . have:=(d.o.set (k*2) (.string s)).set (k*2+1) (.string s');rw[Nh _ _ _ (oB b.o)]
      simpa using this
    . rcases bB i k with h1|h1
      . rw[bN oO]at hy
        exact HA.o i y h1 hy
      . obtain rfl:i=k:=oO;rw[bP (oB b.o)]at hy;obtain rfl:=aD hy;exact⟨am.o ▸ ar.o,an.o ▸ ab.o⟩
   case measure=>exact mI
  . have ax:k=n:=oO;subst ax;go_wp2;go_ret;rw[z];exact⟨⟨g,f,rfl,b.o,l.o,(fun i s hs=>HA.o i s (oC ((gZ hs).1) b.o) hs),aV _⟩,HB.o⟩
def XY(p:Rat):p*(p.den:Rat)=(p.num:Rat):=by
 have a:(p.den:Rat)≠0:=by intro h;exact p.den_nz (qz.1 (by rw[h];rfl))
 have:p=(p.num:Rat) / (p.den:Rat):=by rw[<-Rat.mkRat_eq_div,iO]
 rw[lE]at this;have e:p*(p.den:Rat)=(p.num:Rat)*(p.den:Rat)⁻¹*(p.den:Rat):=by rw[<-this]
 rw[e,wR,Rat.inv_mul_cancel _ a,Qy]
def sN:List Rat->Nat
 | []=>1
 |q :: l=>q.den*sN l
theorem LI:∀l:AL,0<sN l
 | []=>dD
 |q :: l=>gL q.den_pos (LI l)
theorem IL:∀(l:AJ),(∀p,p∈ l->Fits p.1 p.2)->sN (l.map (·.1))<=2 ^ (l.map (·.2)).sum
 | [],_=>dD
 |p :: l,h=>by rw[dY,dY,sN,pT,eG];exact fO (dO (h p sS).2) (IL l fun q a=>h q (by simp[a]))
def Wh(P b:Nat)(q:Rat):Prop:=∃z:Int,q*(P:Rat)=(z:Rat)/\z.natAbs<=2 ^ b
def Wh.mono{q:Rat}(h:Wh P b q)(a:b<=c):Wh P c q:=by obtain⟨z,e,d⟩:=h;exact⟨z,e,aE d (cP dD a)⟩
def Wh.zero(P b:Nat):Wh P b 0:=⟨0,by rw[tP];rfl,sS⟩
def vy:=@Wh.zero
def Wh.neg{q:Rat}(h:Wh P b q):Wh P b (-q):=by obtain⟨z,e,a⟩:=h;refine⟨-z,?_,by rw[u6];exact a⟩;rw[Cv,<-e];grind
def Wh.sub{q:Rat}(h:Wh P b p)(k:Wh P b q):Wh P (b+1) (p - q):=by
 obtain⟨y,e,a⟩:=h;obtain⟨z,f,c⟩:=k;refine⟨y - z,?_,?_⟩
 . rw[Rat.intCast_sub,<-e,<-f]
   grind
 . rw[fD]
   omega
def Wh.one{P b:Nat}(h:P<=2 ^ b):Wh P b 1:=⟨(P:Int),by rw[Rat.one_mul,qK],by simpa using h⟩
def I8:=@Wh.one
def YD{a:Nat}(c:a=2 ^ b):(20+1)*(a*(2*((20+1)*a)) ^ 20)<=2 ^ (5+(b+(6+b)*20)):=by
 have f:2 ^ 6=64:=dD;have e:2*((20+1)*a)<=2 ^ (6+b):=by rw[eG,c];omega
 have d:=iJ e 20;rw[<-uY]at d;rw[eG 2 5,eG 2 b,<-c];exact fO dD (cR _ d)
abbrev kE(b:Nat):Nat:=21*b+126
abbrev kC(b:Nat):Nat:=22*b+126
abbrev kW(b:Nat):Nat:=41*kC b+20
def YC(m:0<P)(e:P<=2 ^ b)(f:∀r,r∈ M->∀j,Wh P b (r j))(n:∀r,r∈ M->∀i,W<=i->r i=0)(hl:M.length<=20∨W<=20):
 pF (kE b) (MJ W 20 (kC b) M)/\MJ W 20 (kC b) M 0 M [] []/\∀L S c,MJ W 20 (kC b) M W L S c->(ot 0 W S c/\∀x,jH W M x↔jH W S x)/\jT (kW b) S c/\∀v,v∈ cln S c->∀i,Fits (v i) (kC b):=by
 have g:∀j:Nat,0<(fun _=>P) j/\(fun _=>P) j<=2 ^ b:=fun _=>⟨m,e⟩
 have k:=YD (a:=2 ^ b) (b:=b) rfl;have l:0<2 ^ b:=gU dD;have o:(20+1)*(2 ^ b*(2*((20+1)*2 ^ b)) ^ 20)<2 ^ kE b:=bQ k (pZ dD (by simp only[kE];omega));have d:(20+1)*(2 ^ b*(2*((20+1)*2 ^ b)) ^ 20)*2 ^ b<2 ^ kC b:=by refine bQ (cD _ k) ?_;rw[<-eG];exact pZ dD (by simp only[kC];omega)
 refine⟨MJ.A7 (D:=fun _=>P) l g f o (by simp only[kE];omega) d (by simp only[kC];omega),MJ.start W 20 _ M n hl,fun L S c h=>⟨h.1.done,?_⟩⟩;exact MJ.Ge (D:=fun _=>P) l g f d (by simp only[kC];omega) (by simp only[kW,kC];omega) h
def pF.mono{K':Nat}{I:Aq}(h:pF K I)(a:K<=K'):pF K' I:=⟨fun b r c i=>(h.fit b r c i).mono a,h.skip,h.step⟩
def down(c:Nat)(p v:cW):cW:=fun i=>v i - v c*p i
def jn(c:Nat)(s:cW):cW:=fun i=>s i / s c
def TU{s v:cW}:down c (jn c s) v=kR c s v:=by funext i;simp only[down,jn,kR];grind
def UC{s:cW}(h:s c≠0):jn c s c=1:=by simp only[jn];grind
def mu(c k b:Nat)(s t:cW)(L:Aj):List cW:=((L.set k s).set b t).mapIdx fun j v=>if j=k then jn c s else down c (jn c s) v
def H9(c k b:Nat)(s t:cW)(L:Aj):(mu c k b s t L).length=L.length:=by simp[mu]
def H8{s t:cW}(d:L[b]?=some s)(a:L[k]?=some t):(mu c k b s t L)[k]?=some (jn c s):=by have hk:=(gZ a).1;simp only[mu,nv];rw[gE (sU hk)];simp
def Ny{s t:cW}(d:L[b]?=some s)(e:L[k]?=some t)(a:b≠k):(mu c k b s t L)[b]?=some (down c (jn c s) t):=by have hb:=(gZ d).1;simp only[mu,nv];rw[bP (sU hb)];simp[a]
def Kw{s t v:cW}(d:L[j]?=some v)(a:j≠k)(e:j≠b):(mu c k b s t L)[j]?=some (down c (jn c s) v):=by simp only[mu,nv];rw[bN (gH e),bN (gH a),d];simp[a]
def Kv{s t v:cW}(f:L[b]?=some s)(g:L[k]?=some t)(a:(mu c k b s t L)[j]?=some v):
 (j=k/\v=jn c s)∨(j≠k/\∃u,v=down c (jn c s) u/\((j=b/\u=t)∨(j≠b/\L[j]?=some u))):=by
 by_cases d:j=k
 . subst d;rw[H8 f g]at a;exact .inl ⟨rfl,(aD a).symm⟩
 .
  refine .inr ⟨d,?_⟩;by_cases e:j=b
  . subst e;rw[Ny f g d]at a;exact⟨t,(aD a).symm,.inl ⟨rfl,rfl⟩⟩
  . have hl:j<L.length:=by have:=(gZ a).1;rw[H9]at this;exact this
    obtain⟨u,h⟩:∃u,L[j]?=some u:=⟨_,gE hl⟩;rw[Kw h d e]at a;exact⟨u,(aD a).symm,.inr ⟨e,h⟩⟩
def Ku(W c:Nat)(p v x:cW):dot W (down c p v) x=dot W v x - v c*dot W p x:=by
 have e:down c p v=fun i=>v i - p i*v c:=by funext i;simp only[down];grind
 rw[e,Dw]
def Nx(W c:Nat)(s x:cW):dot W (jn c s) x=dot W s x / s c:=by unfold jn;rw[GJ]
def UB{s t:cW}(d:L[b]?=some s)(e:L[k]?=some t)(p:s c≠0)(x:cW):jH W L x↔jH W (mu c k b s t L) x:=by
 constructor
 .
  intro h v g;obtain⟨j,f⟩:=dS.1 g;have a:dot W (jn c s) x=0:=by rw[Nx,h s (mO d)];grind
  rcases Kv d e f with ⟨_,rfl⟩|⟨_,u,rfl,i⟩
  . exact a
  .
   have o:u∈ L:=by
    rcases i with ⟨_,rfl⟩|⟨_,i⟩
    . exact mO e
    . exact mO i
   rw[Ku,a,h u o];grind
 .
  intro h v g;have a:=h _ (mO (H8 (c:=c) d e));have l:dot W s x=0:=by
   rw[Nx]at a;have:dot W s x=dot W s x / s c*s c:=by grind
   rw[this,a];grind
  obtain⟨j,f⟩:=dS.1 g;by_cases m:j=b
  . subst m;obtain rfl:=aD (d.symm.trans f);exact l
  . by_cases n:j=k
    . subst n;obtain rfl:=aD (e.symm.trans f);have:=h _ (mO (Ny (c:=c) d e (gH m)));rw[Ku,a]at this;grind
    . have:=h _ (mO (Kw (c:=c) (s:=s) (t:=t) f n m));rw[Ku,a]at this;grind
theorem tB.xg{c:Nat}{p:cW}(f:p c=1)(b:∀i,i<c->p i=0):∀{S:Aj} {g:Vy} {lo e:Nat},tB lo e S g->e<=c->tB lo (c+1) (S.map (down c p)++ [p]) (g++ [c])
 | [],[],lo,e,h,hc=>⟨aE h hc,f,b,fun d a=>(by cases a),aV _⟩
 |r :: S,h :: g,lo,e,⟨k1,k2,k3,k4,k5⟩,hc=>by
  have j:h<c:=oB ((tB.ech k5).le);refine⟨k1,?_,fun d a=>?_,fun d a=>?_,tB.xg f b k5 hc⟩
  . simp only[down];rw[k2,b h j];grind
  . simp only[down];rw[k3 d a,b d oO];grind
  .
   simp only[down];rcases bD.1 a with a|a
   . have:=((tB.ech k5).head d a).2;rw[k4 d a,b d oO];grind
   . rw[bE.1 a,f]
     grind
 | [],_ :: _,_,_,h,_=>h.elim
 |r :: S,[],_,_,h,_=>h.elim
theorem tB.mono:∀{S:Aj} {b:Vy} {lo c a:Nat},tB lo c S b->c<=a->tB lo a S b
 | [],[],_,_,_,h,k=>aE h k
 |r :: S,h :: b,_,_,_,⟨k1,k2,k3,k4,k5⟩,k=>⟨k1,k2,k3,k4,tB.mono k5 k⟩
 | [],_ :: _,_,_,_,h,_=>h.elim
 |r :: S,[],_,_,_,h,_=>h.elim
def MI.other{b S f:Aj}(h:MI W N M c L S a)(hl:b.length=L.length)(g:∀v,v∈ b->v∈ L)(i:∀(R:AI),(∀s,s∈ S->Span a.length R s)->∀s,s∈ f->Span a.length R s):MI W N M c b f a:=by obtain⟨j,k,l,R,m,n,o,d⟩:=h;exact⟨j,by rw[hl];exact k,fun v e=>l v (g v e),R,m,n,fun v e=>o v (g v e),i R d⟩
structure Pl (W N:Nat) (M:Aj) (c:Nat) (L:Aj) (hs:Vy):Prop where
 len:L.length=M.length
 null:∀x,jH W M x↔jH W L x
 cln:tB 0 c (L.take hs.length) hs
 rest:∀(j:Nat)(v:cW),L[j]?=some v->hs.length<=j->∀d,d<c->v d=0
 mi:MI W N M c (L.drop hs.length) (L.take hs.length) hs
def Pl.start(W N:Nat)(M:Aj)(a:∀v,v∈ M->∀i,W<=i->v i=0)(b:M.length<=N∨W<=N):Pl W N M 0 M []:=
 ⟨rfl,fun x=>Iff.rfl,aV _,fun _ _ _ _ d c=>oO,MI.start W N M a b⟩
def Pl.skip(h:Pl W N M c L a)(f:∀(j:Nat)(v:cW),L[j]?=some v->a.length<=j->v c=0):Pl W N M (c+1) L a:=
 ⟨h.len,h.null,h.cln.mono (dU _),fun j v b hk d g=>by
   rcases bB d c with e|e
   . exact h.rest j v b hk d e
   . obtain rfl:d=c:=oO
     exact f j v b hk,h.mi.skip⟩
def Pl.le(h:Pl W N M c L a):a.length<=L.length:=by have:=(tB.ech h.cln).len;rw[cI]at this;omega
def Pl.step{s t:cW}(h:Pl W N M c L a)(hb:a.length<=b)(f:L[b]?=some s)(o:L[a.length]?=some t)(A:s c≠0):Pl W N M (c+1) (mu c a.length b s t L) (a++ [c]):=by
 have D:=h.rest b s f hb;have p:=UC A;have q:∀i,i<c->jn c s i=0:=fun i y=>by simp only[jn];rw[D i y];grind
 have E:=(gZ o).1;have k:(mu c a.length b s t L).take (a.length+1)=(L.take a.length).map (down c (jn c s))++ [jn c s]:=by
  apply fK;intro j;rcases gS j a.length with m|m|m
  . rw[aW oO,aR (by rw[bF,cI];omega),aP,aW m];obtain⟨u,g⟩:∃u,L[j]?=some u:=⟨_,gE oO⟩;rw[Kw g oO oO,g];rfl
  . subst m;rw[aW oO,H8 f o,aX (by rw[bF,cI];omega)];rw[bF,cI,eH oO,fA];rfl
  . rw[aO tO,aO (by rw[aS,bF,cI];simp;omega)]
 have l:(a++ [c]).length=a.length+1:=sS;refine⟨by rw[H9];exact h.len,fun x=>(h.null x).trans (UB f o A x),?_,?_,?_⟩
 . rw[l,k]
   exact tB.xg p q h.cln lZ
 .
  intro j v z hk d G;rw[l]at hk;rcases Kv f o z with ⟨m,_⟩|⟨m,u,rfl,g⟩
  . omega
  .
   have B:∀i,i<c->u i=0:=by
    rcases g with ⟨_,rfl⟩|⟨_,g⟩
    . exact h.rest _ _ o lZ
    . exact h.rest _ _ g oO
   simp only[down];rcases bB d c with r|r
   . rw[B d r,q d r]
     grind
   . obtain rfl:d=c:=oO;rw[p];grind
 .
  have z:(L.drop a.length)[b - a.length]?=some s:=by rw[fN,show a.length+(b - a.length)=b by omega];exact f
  have F:=h.mi.step z A;rw[l];refine F.other ?_ ?_ ?_
  . rw[ix,H9,bF,EE (gZ z).1,ix]
    omega
  .
   intro v n;obtain⟨i,y⟩:=dS.1 n;rw[fN]at y;rcases Kv f o y with ⟨m,_⟩|⟨m,u,rfl,g⟩
   . omega
   . rw[TU];refine bZ.2 ⟨u,Bj.2 ?_,rfl⟩;rcases g with ⟨r,rfl⟩|⟨r,g⟩
     . exact⟨0,oO,by rw[fN];exact o⟩
     . exact⟨i+1,oO,by rw[fN,<-gT,Nat.add_right_comm];exact g⟩
  .
   intro R C v n;rw[k]at n;have w:Span (a++ [c]).length R (jn c s):=(C s sS).over _;rcases bD.1 n with n|n
   . obtain⟨u,g,rfl⟩:=bZ.1 n;have e:down c (jn c s) u=fun i=>u i - jn c s i*u c:=by funext i;simp only[down];grind
     rw[e];exact(C u (bD.2 (.inl g))).less w _
   . rw[bE.1 n]
     exact w
def Pl.fits(h:Pl W N M c L a)(u:0<P)(f:P<=2 ^ b)(n:∀r,r∈ M->∀j,Wh P b (r j))(o:(N+1)*(2 ^ b*(2*((N+1)*2 ^ b)) ^ N)*2 ^ b<2 ^ K)(d:0<K)(j:Nat)(v:cW)(p:L[j]?=some v)(i:Nat):Fits (v i) K:=by
 have k:0<2 ^ b:=gU dD;have q:∀B:Nat,0<P/\P<=2 ^ b:=fun _=>⟨u,f⟩
 rcases bB j a.length with l|l
 .
  obtain⟨k1,k2,C,R,w,y,E,z⟩:=h.mi;have s:(L.take a.length)[j]?=some v:=by rw[aW l];exact p
  obtain⟨g,t⟩:∃g,a[j]?=some g:=⟨_,gE l⟩;obtain⟨c1,c2,c3⟩:=h.cln.at j v g s t;refine KL (W:=N) (H:=a) (D:=fun _=>P) k q n o d rfl oO w y (z v (mO s)) (mO t) c1 (fun x A m=>?_) i;rcases gS x g with e|e|e
  . exact c2 x e
  . exact absurd e m
  . exact c3 x A e
 .
  refine h.mi.fit (D:=fun _=>P) k q n (bQ ?_ o) d v ?_ i
  . exact Hs _ k
  . exact mO (i:=j - a.length) (by rw[fN,show a.length+(j - a.length)=j by omega];exact p)
def Nw(n:Nat)(r x:cW):dot (n+1) r x=dot n r x+r n*x n:=rfl
def Nv{x:cW}:(∀r,r∈ M->dot n r x=r n)↔jH (n+1) M (qQ x n (-1)):=by
 have e:∀r:cW,dot (n+1) r (qQ x n (-1))=dot n r x - r n:=fun r=>by rw[Nw,yC,rG n r (qQ x n (-1)) r x (fun c b=>by rw[sT _ _ oO])];grind
 constructor
 . intro h r a;rw[e,h r a];grind
 . intro h r a;have:=h r a;rw[e]at this;grind
def Pl.Md(h:Pl (n+1) N M n L a)(x:cW):(∀r,r∈ M->dot n r x=r n)↔∀r,r∈ L->dot n r x=r n:=by rw[Nv,Nv];exact h.null _
def Pl.none(h:Pl (n+1) N M n L a){v:cW}(d:a.length<=i)(b:L[i]?=some v)(e:v n≠0)(x:cW):¬∀r,r∈ M->dot n r x=r n:=by rw[h.Md];intro k;have:=k v (mO b);rw[yY n v x (fun c f=>by rw[h.rest i v b d c f];grind)]at this;exact e this.symm
def Pl.row(h:Pl (n+1) N M n L a)(f:∀(i:Nat)(v:cW),a.length<=i->L[i]?=some v->v n=0)(x:cW):(∀r,r∈ M->dot n r x=r n)↔∀r,r∈ L.take a.length->dot n r x=r n:=by
 rw[h.Md];constructor
 . exact fun k v d=>k v (dR d)
 .
  intro k v d;obtain⟨j,e⟩:=dS.1 d;rcases bB j a.length with b|b
  . exact k v (mO (i:=j) (by rw[aW b];exact e))
  . rw[f j v b e]
    exact yY n v x fun c g=>by rw[h.rest j v e b c g];grind
def Pl.one(h:Pl (n+1) N M n L a)(w:∀(i:Nat)(v:cW),a.length<=i->L[i]?=some v->v n=0)(hl:a.length=n)(y:cW):(∀r,r∈ M->dot n r y=r n)↔∀(i:Nat)(v:cW),i<n->L[i]?=some v->y i=v n:=by
 rw[h.row w y];have t:∀(i g:Nat),a[i]?=some g->g=i:=fun i g l=>by have:=ot.all h.cln.ech oO i g l;omega
 have c:∀(i:Nat)(v:cW),i<n->L[i]?=some v->dot n v y=y i:=fun i v o b=>by
  obtain⟨g,l⟩:∃g,a[i]?=some g:=⟨_,gE oO⟩;have p:=t i g l;subst p;have q:(L.take a.length)[g]?=some v:=by rw[aW oO];exact b
  obtain⟨x,z,A⟩:=h.cln.at g v g q l;rw[B8 n v y g o (fun d B s=>?_),x]
  . grind
  .
   rcases gS d g with k|k|k
   . rw[z d k];grind
   . exact absurd k s
   . obtain⟨e,u⟩:∃e,a[d]?=some e:=⟨_,gE oO⟩;have:=t d e u;subst this;rw[A e (mO u) k];grind
 constructor
 . intro k i v o b;rw[<-c i v o b];exact k v (mO (i:=i) (by rw[aW oO];exact b))
 . intro k v b;obtain⟨j,m⟩:=dS.1 b;have f:j<n:=by have:=(gZ m).1;rw[cI]at this;omega
   rw[aW oO]at m;rw[c j v f m];exact k j v f m
def Pl.free{b:Vy}(h:Pl (n+1) N M n L b)(j:∀(i:Nat)(v:cW),b.length<=i->L[i]?=some v->v n=0)(hl:b.length<n):∃x y:cW,(∀r,r∈ M->dot n r x=r n)/\(∀r,r∈ M->dot n r y=r n)/\∃c,c<n/\x c≠y c:=by
 obtain⟨c,_,k,d⟩:=h.cln.ech.DZ oO;have l:=h.cln.ech.mono (dU n);have m:n ∉ b:=fun o=>oB ((h.cln.ech.head n o).2)
 have a:∀q:Rat,∃x:cW,(∀r,r∈ M->dot n r x=r n)/\x c=q:=fun q=>by
  obtain⟨x,g,p⟩:=ot.AZ (n+1) (qQ (fun _=>q) n (-1)) l lZ;have e:x n= -1:=by rw[g n m,yC]
  refine⟨x,?_,by rw[g c d,sT _ _ oO]⟩;rw[h.row j x];intro r f;have:=p r f;rw[Nw,e]at this;grind
 obtain⟨x,s,t⟩:=a 0;obtain⟨y,u,w⟩:=a 1;exact⟨x,y,s,u,c,k,by rw[t,w];decide⟩
def dW.Dd{a:Ad}{c:Ak}(h:dW a d c 0 x):¬te a.length d.length c.length/\(∀(i:Nat)(b:B6),d[i]?=some b->jc a b 0)/\(∀i y,c[i]?=some y->jp a.length c i y=0)/\x=0:=by
 rcases h with ⟨_,h,_⟩|⟨_,k,b,_,_,_,h,_⟩|⟨e,f,h⟩
 . cases h
 . exact absurd rfl h
 .
  rcases h with ⟨_,_,_,_,_,h,_⟩|⟨g,_,j⟩
  . exact absurd rfl h
  . exact⟨e,f,g,j⟩
def XI{d:Ad}{A:Ap}{c:Ak}(n:jL d A c){b:B6}(h:jc d b 0):∃p:Al,wL 1048576 d b p/\p.1<d.length/\p.2.1<d.length/\¬(p.2.2.1=0/\p.2.2.2=0):=by
 rcases h with ⟨_,h⟩|⟨o,q,s,t,c,g,i,k,l,m,D,E,F,r,u,v,w,_,_,_,x⟩
 . cases h
 have f:¬(i=l/\k=m):=fun e=>by rw[aN e]at x;cases x
 have y:=n.j s (mO c);have z:=n.j t (mO g);have G:=o.1;have H:=q.1;have I:=o.2;have J:=q.2;refine⟨(b.a.toNat,b.b.toNat,l - i,m - k),⟨by simp only;omega,by simp only;omega,fun e=>?_,s,t,i,k,l,m,c,g,y.1,y.2,z.1,z.2,r,u,v,w,rfl,rfl⟩,by simp only;omega,by simp only;omega,fun ⟨B,C⟩=>f ⟨?_,?_⟩⟩
 . simp only at e;rw[e,g]at c;cases c;exact f ⟨r.inj v,u.inj w⟩
 . simp only at B
   grind
 . simp only at C
   grind
def Pr{P:Nat->Prop}(n:Nat)(h:P n):∃k,P k/\∀m,m<k->¬P m:=by
 induction n using Nat.strongRecOn with
 |ind n d=>
  by_cases c:∃m,m<n/\P m
  . obtain⟨m,a,b⟩:=c
    exact d m a b
  . exact⟨n,h,fun m a b=>c ⟨m,a,b⟩⟩
def jc.ex(d:Ad)(b:B6):∃c,jc d b c:=by
 by_cases h:qn d.length b.a/\qn d.length b.b
 . obtain⟨⟨e,f⟩,g,i⟩:=h;obtain⟨j,k⟩:=j9 (d[b.a.toNat]' oO).x.data.toList;obtain⟨n,o⟩:=j9 (d[b.a.toNat]' oO).y.data.toList;obtain⟨p,q⟩:=j9 (d[b.b.toNat]' oO).x.data.toList;obtain⟨r,s⟩:=j9 (d[b.b.toNat]' oO).y.data.toList;obtain⟨t,u⟩:=j9 b.c.data.toList;obtain⟨v,w⟩:=j9 b.l.data.toList;obtain⟨z,A⟩:=j9 b.m.data.toList;exact⟨_,.inr ⟨⟨e,f⟩,⟨g,i⟩,_,_,gE _,gE _,j,n,p,r,t,v,z,k,o,q,s,u,w,A,rfl⟩⟩
 . exact⟨4,.inl ⟨h,rfl⟩⟩
def dW.ex(a:Ad)(l:Ap)(h:Ak):∃c x,dW a l h c x:=by
 by_cases m:te a.length l.length h.length
 . exact⟨2,0,.inl ⟨m,rfl,rfl⟩⟩
 by_cases hb:∃(k:Nat)(b:B6),l[k]?=some b/\¬jc a b 0
 . obtain⟨n,d⟩:=hb;obtain⟨k,⟨b,o,p⟩,q⟩:=Pr (P:=fun k=>∃b,l[k]?=some b/\¬jc a b 0) n d;obtain⟨c,s⟩:=jc.ex a b;refine⟨c,k,.inr (.inl ⟨m,k,b,o,fun i x r f=>bC fun g=>q i r ⟨x,f,g⟩,s,fun e=>p (e ▸ s),rfl⟩)⟩
 .
  have j:=fun i x f=>bC fun g=>hb ⟨i,x,f,g⟩
  by_cases t:∃(k:Nat)(y:H3),h[k]?=some y/\jp a.length h k y≠0
  . obtain⟨n,d⟩:=t;obtain⟨k,⟨y,o,p⟩,q⟩:=Pr (P:=fun k=>∃y,h[k]?=some y/\jp a.length h k y≠0) n d;exact⟨_,_,.inr (.inr ⟨m,j,.inl ⟨k,y,o,fun i x r f=>bC fun g=>q i r ⟨x,f,g⟩,rfl,p,rfl⟩⟩)⟩
  . exact⟨0,0,.inr (.inr ⟨m,j,.inr ⟨fun i x f=>bC fun g=>t ⟨i,x,f,g⟩,rfl,rfl⟩⟩)⟩
def YF{a:Ak}{h:H3}(k:jp n a i h=0):∃r:Nat,uP n h r:=by
 unfold jp qE at k;have b:0<=h.j/\h.j<n:=by apply bC;intro c;rw[aH c]at k;cases k
 obtain⟨d,e⟩:=b;exact⟨_,h.j.toNat,oO,oO,rfl⟩
def P6{a:Ad}{j:Ak}(v:jL a d j)(h:dW a d j 0 x):∃(t:Aa)(vh:Vy),rZ 1048576 a d j t vh/\∀p,p∈ t->p.1<a.length/\p.2.1<a.length/\¬(p.2.2.1=0/\p.2.2.2=0):=by
 obtain⟨m,hb,w,_⟩:=h.Dd;have n:∀i:Nat,∃p:Al,∀b,d[i]?=some b->wL 1048576 a b p/\p.1<a.length/\p.2.1<a.length/\¬(p.2.2.1=0/\p.2.2.2=0):=fun i=>by
  rcases k:d[i]? with _|b
  . exact⟨(0,0,0,0),fun b hb=>by cases hb⟩
  . obtain⟨p,c⟩:=XI v (hb i b k)
    exact⟨p,fun B e=>by cases e;exact c⟩
 have o:∀i:Nat,∃r:Nat,∀y,j[i]?=some y->uP a.length y r:=fun i=>by
  rcases k:j[i]? with _|y
  . exact⟨0,fun b hb=>by cases hb⟩
  . obtain⟨r,q⟩:=YF (w i y k)
    exact⟨r,fun C e=>by cases e;exact q⟩
 obtain⟨f,u⟩:=gQ n;obtain⟨g,z⟩:=gQ o;have l:∀{β:Type} (F:Nat->β) (L i:Nat) (p:β),((List.range L).map F)[i]?=some p->i<L/\p=F i:=fun F L i p c=>by have hl:=(gZ c).1;rw[bF,jm]at hl;rw[aP,gM hl]at c;exact⟨hl,(aD c).symm⟩
 refine⟨(List.range d.length).map f,(List.range j.length).map g,⟨?_,?_,?_,sS,sS,fun i b p hb c=>?_,fun i y r A q=>?_,aV _⟩,fun p c=>?_⟩
 . exact gP fun h=>m (.inr (.inl h))
 . exact gP fun h=>m (.inr (.inr (.inl h)))
 . exact gP fun h=>m (.inr (.inr (.inr h)))
 . obtain⟨_,rfl⟩:=l f _ _ _ c
   exact(u i b hb).1
 . obtain⟨_,rfl⟩:=l g _ _ _ q
   exact z i y A
 . obtain⟨i,k,rfl⟩:=bZ.1 c;have s:=dL.1 k;exact(u i d[i] (gE s)).2
def jW:List S2->Nat
 | []=>0
 |s :: l=>s.x.size+s.y.size+jW l
def WB(s:Vs):s.data.toList.length=s.size:=by rw[qL];rfl
def il.oA{s:Vs}{q:Rat}(h:il s.data.toList q)(a:s.size<=n):Fits q (4*n+1):=h.fits (by rw[WB];exact a)
theorem Om:∀b:Ad,∃l:AJ,(∀p,p∈ l->Fits p.1 p.2)/\(l.map (·.2)).sum=4*jW b+2*b.length/\∀s,s∈ b->∀x y,il s.x.data.toList x->il s.y.data.toList y->x∈ l.map (·.1)/\y∈ l.map (·.1)
 | []=>⟨[],(fun p a=>by cases a),rfl,(fun s h=>by cases h)⟩
 |s :: b=>by
  obtain⟨l,i,j,k⟩:=Om b;obtain⟨x,d⟩:=j9 s.x.data.toList;obtain⟨y,e⟩:=j9 s.y.data.toList;refine⟨(x,4*s.x.size+1) :: (y,4*s.y.size+1) :: l,fun p a=>?_,?_,fun t c u v f g=>?_⟩
  .
   rcases aY.1 a with rfl|a
   . exact d.oA lZ
   . rcases aY.1 a with rfl|a
     . exact e.oA lZ
     . exact i p a
  . simp only[dY,pT,j,jW,dJ]
    omega
  .
   rcases aY.1 c with rfl|c
   . rw[f.inj d,g.inj e]
     simp
   . obtain⟨k1,k2⟩:=k t c u v f g
     exact⟨bU _ (bU _ k1),bU _ (bU _ k2)⟩
structure L6 (P b:Nat) (vb:Aa):Prop where
 pos:0<P
 le:P<=2 ^ b
 wh:∀p,p∈ vb->Wh P b p.2.2.1/\Wh P b p.2.2.2
def L6.at{nb:Nat}{a:Aa}{vh:Vy}(h:L6 P b a)(r c:Nat):Wh P b (dP a nb vh r c):=by
 unfold dP;cases hp:a[c]? with
 |none=>
  simp only;cases vh[c - nb]? with
  |none=>exact vy _ _
  |some x=>
   simp only
   split
   . exact I8 h.le
   . exact vy _ _
 |some p=>
  obtain⟨w1,w2⟩:=h.wh p (mO hp);simp only[mN]
  split
  . exact w1
  .
   split
   . exact w1.neg
   .
    split
    . exact w2
    . split
      . exact w2.neg
      . exact vy _ _
def lW:List L3->Nat
 | []=>0
 |s :: l=>s.x.size+s.y.size+lW l
theorem Qo:∀{l:AE} {s:L3},s∈ l->s.x.size<=lW l/\s.y.size<=lW l
 |t :: l,s,h=>by
  rcases aY.1 h with rfl|h
  . simp only[lW];omega
  . have:=Qo h;simp only[lW];omega
theorem Qn:∀b:AE,∃l:AJ,(∀p,p∈ l->Fits p.1 p.2)/\(l.map (·.2)).sum=4*lW b+2*b.length/\∀s,s∈ b->∀x y,il s.x.data.toList x->il s.y.data.toList y->x∈ l.map (·.1)/\y∈ l.map (·.1)
 | []=>⟨[],(fun p a=>by cases a),rfl,(fun s h=>by cases h)⟩
 |s :: js=>by
  obtain⟨l,i,j,k⟩:=Qn js;obtain⟨x,d⟩:=j9 s.x.data.toList;obtain⟨y,e⟩:=j9 s.y.data.toList;refine⟨(x,4*s.x.size+1) :: (y,4*s.y.size+1) :: l,fun p a=>?_,?_,fun t c u v f g=>?_⟩
  .
   rcases aY.1 a with rfl|a
   . exact d.oA lZ
   . rcases aY.1 a with rfl|a
     . exact e.oA lZ
     . exact i p a
  . simp only[dY,pT,j,lW,dJ]
    omega
  .
   rcases aY.1 c with rfl|c
   . rw[f.inj d,g.inj e]
     simp
   . obtain⟨k1,k2⟩:=k t c u v f g
     exact⟨bU _ (bU _ k1),bU _ (bU _ k2)⟩
def B1(P b a:Nat)(q:Rat):Prop:=∃z:Int,q*(P:Rat)=(z:Rat)/\z.natAbs<=a*2 ^ b
def B1.sub{a:Nat}{q:Rat}(h:B1 P b a p)(k:Wh P b q):B1 P b (a+1) (p - q):=by
 obtain⟨y,e,c⟩:=h;obtain⟨z,f,d⟩:=k;refine⟨y - z,?_,?_⟩
 . rw[Rat.intCast_sub,<-e,<-f]
   grind
 . rw[jB,qa]
   omega
def B1.mono{a:Nat}{q:Rat}(h:B1 P b a q)(d:a<=c):B1 P b c q:=by obtain⟨z,e,f⟩:=h;exact⟨z,e,aE f (cD _ d)⟩
theorem L4{P b:Nat}:∀(k:Nat)(vs:Ai),(∀p,p∈ vs->Wh P b p.2.1/\Wh P b p.2.2)->∀i,B1 P b k (pJ (vs.take k) i)
 |0,vs,h,i=>⟨0,by simp[pJ,tP],sS⟩
 |k+1,vs,h,i=>by
  cases hp:vs[k]? with
  |none=>
   have e:vs.take (k+1)=vs.take k:=by rw[jU,hp];simp
   rw[e];exact(L4 k vs h i).mono oO
  |some p=>
   rw[Fq hp];have a:=L4 k vs h;obtain⟨w1,w2⟩:=h p (mO hp);by_cases c:i=2*p.1
   . rw[c,vZ];exact(a _).sub w1
   . by_cases d:i=2*p.1+1
     . rw[d,vW];exact(a _).sub w2
     . have:ng (pJ (vs.take k)) p i=pJ (vs.take k) i:=by unfold ng;rw[sT _ _ d,sT _ _ c]
       rw[this];exact(a i).mono oO
def Wh.fits{q:Rat}(h:Wh P b q)(a:0<P)(c:P<=2 ^ b):Fits q (b+1):=by
 obtain⟨z,e,f⟩:=h;have g:2 ^ b<2 ^ (b+1):=pZ dD oO;refine KO (Z:=z) (y:=1) (d:=P) dD a ?_ oO sO oO;rw[<-e]
 show q*(((1:Int):Rat)*(P:Rat))=q*(P:Rat)
 rw[show ((1:Int):Rat)=1 from rfl,Rat.one_mul]
theorem LZ{α β γ:Type}{f:α->β->γ}:∀{l:List α} {m:List β} {r:γ},r∈ List.zipWith f l m->∃a,a∈ l/\∃b,b∈ m/\r=f a b
 |a :: l,b :: m,r,h=>by
  rw[List.zipWith_cons_cons]at h;rcases aY.1 h with rfl|h
  . exact⟨a,sS,b,sS,rfl⟩
  . obtain⟨c,d,g,hb,e⟩:=LZ h
    exact⟨c,by simp[d],g,by simp[hb],e⟩
 | [],m,r,h=>by simp at h
 |a :: l,[],r,h=>by simp at h
def ES{q:Rat}(h:q=0∨q=1∨q= -1):Wh 1 b q:=by
 rcases h with rfl|rfl|rfl
 . exact vy _ _
 . exact I8 rj
 . exact(I8 rj).neg
abbrev RT:=Nat × Rat × Nat
abbrev AC:=List (List RT)
abbrev Am:=List RT
def lS(t:RT):Value:=.pointer (some ⟨t.1,0,none⟩)
def uD(u:Ac):Prop:=∃p,u=Value.pointer p
def Du(a:List RT):∀u,u∈ a.map lS->uD u:=fun u b=>by obtain⟨t,_,rfl⟩:=bZ.1 b;exact⟨_,rfl⟩
def NZ(a:List RT):∀u,u∈ a.map lS->u.oneCell'=true:=fun u b=>by obtain⟨t,_,rfl⟩:=bZ.1 b;rfl
structure Fp (w w':Vz):Prop where
 size:w.heap.size<=w'.heap.size
 keep:∀b i u,w.cell? ⟨b,i,none⟩=some u->¬uD u->w'.heap[b]?=w.heap[b]?
def Fp.iw{w w':Vz}{g:Nat}{t:Vr}{C:Vw}(c:cE g w w')(d:SB w g t C)(hC:∀u,u∈ C.toList->uD u):Fp w w':=by refine⟨c.size,fun b i u a hk=>c.block b (bI _ _ a) ?_⟩;rintro rfl;rw[d.cell]at a;exact hk (hC u (mO (by rw[dF];exact a)))
def FQ:=@Fp.iw
def Fp.grown{e:Vr}{xs:Vv}(c:Grow w B e 1 uD v n xs)(h:w.grownBy w' v.ownBlock):Fp w w':=by refine⟨h.size,fun b i u a hk=>h.block b (bI _ _ a) (fun e=>?_)⟩;obtain⟨C,hC,d⟩:=c.sb e.symm;rw[hC.cell]at a;exact hk (d u (mO (by rw[dF];exact a)))
def Fp.cell(h:Fp w w')(a:w.cell? ⟨b,i,none⟩=some u)(hk:¬uD u)(j:Nat):w'.cell? ⟨b,j,none⟩=w.cell? ⟨b,j,none⟩:=bJ (w:=w) (h.keep b i u a hk)
def TI(x:Bool):¬uD (.bool x):=fun ⟨p,e⟩=>by cases e
def TH(k:AM)(n:Int):¬uD (.int k n):=fun ⟨p,e⟩=>by cases e
def Row.fp{k:AM}{a:Vx}{cap:Nat}{l:Vy}(h:Row k w a cap l)(c:Fp w w'):Row k w' a cap l:=by
 refine⟨h.fit,?_,fun i g=>?_⟩
 .
  rcases h.shape with d|⟨e,b,rfl,j⟩
  . exact .inl d
  . exact .inr ⟨e,b,rfl,by have:=c.size;omega⟩
 . obtain⟨e,b,d,j,f⟩:=h.cell i g
   exact⟨e,b,d,by have:=c.size;omega,(c.cell f (TH _ _) _).trans f⟩
def SB.fp{C:Vw}(h:SB w b t C)(a:Fp w w')(c:C[i]?=some u)(d:¬uD u):SB w' b t C:=by have e:=a.keep b i u (by rw[h.cell];exact c) d;unfold SB at h ⊢;rw[e];exact h
def cQ.fp{q:Rat}(h:cQ w b q)(c:Fp w w'):cQ w' b q:=by obtain⟨D,d,c1,e,f,c2,g,a,j⟩:=h;exact⟨D,d,c1,e,f,c2,g,⟨a.sb.fp c (i:=0) rfl (TI _),⟨a.num.row.fp c,a.num.num,a.num.short⟩,⟨a.den.row.fp c,a.den.num,a.den.short⟩⟩,j⟩
def wV(w:Vz)(ts:List RT):Prop:=∀t,t∈ ts->cQ w t.1 t.2.1/\Fits t.2.1 t.2.2/\0<t.2.2
def wV.below{a:List RT}(h:wV w a)(hb:Bl w w'):wV w' a:=fun t b=>⟨(h t b).1.below hb,(h t b).2⟩
def wV.fp{a:List RT}(h:wV w a)(c:Fp w w'):wV w' a:=fun t b=>⟨(h t b).1.fp c,(h t b).2⟩
structure lk (w:Vz) (a:Vx) (ts:List RT):Prop where
 row:mA w a (ts.map lS)
 vs:wV w ts
def lk.below{a:Vx}{b:List RT}(h:lk w a b)(hb:Bl w w'):lk w' a b:=⟨h.row.below hb,h.vs.below hb⟩
def lk.at{a:Vx}{d:List RT}(h:lk w a d){t:RT}(e:d[i]?=some t):∃b c,a=some ⟨b,c,none⟩/\b<w.heap.size/\w.cell? ⟨b,c+i,none⟩=some (.pointer (some ⟨t.1,0,none⟩)):=h.row.cell i (lS t) (by rw[aP,e];rfl)
def lk.Qw{a:Vx}{b:List RT}(h:lk w a b)(c:∃m,w.cell? ⟨4,0,none⟩=some (.int .i64 m)):eT w w b:=⟨ac _ _,c,h.vs⟩
def J8:(prog.info? 63).map (fun i=>(i.zero,i.size,i.bytes))=some (some (.pointer none),1,8):=kK
structure jD (w:Vz) (B:Nat) (v:Ac) (ts:List RT):Prop where
 list:Grow w B 63 1 uD v ts.length (ts.map lS)
 vs:wV w ts
def jD.below{a:List RT}(h:jD w B v a)(hb:Bl w w'):jD w' B v a:=⟨h.list.below hb,h.vs.below hb⟩
def jD.nil(w:Vz)(B:Nat):jD w B (.slice none 0 0) []:=⟨pA _ _ _ _ _,fun t a=>by cases a⟩
def jD.row{b:List RT}(h:jD w B v b):∃a cap,v=.slice a b.length cap/\lk w a b:=by obtain⟨a,cap,e,_,c,_⟩:=h.list.slice;exact⟨a,cap,e,c,h.vs⟩
def jD.Gf{nb:Nat}{d us:List RT}(h:jD w B v d)(a:prog.underlying t=some (.slice 63))(e:wV w us)(n:us.length=m)(o:∀j u,(us.map lS)[j]?=some u->w.cell? ((⟨nb,0,none⟩:Addr).add j)=some u)(p:d.length+m<=1048576)(hB:B<=w.heap.size)(ty:Vr):
 ∃b w',sQ prog t ty v (.slice (some ⟨nb,0,none⟩) m c) w=.ok b w'/\jD w' B b (d++us)/\Below B w w'/\Fp w w'/\w.grownBy w' v.ownBlock/\(b.ownBlock=v.ownBlock∨b.ownBlock=some w.heap.size):=by
 subst n;obtain⟨i,q,r⟩:=aZ.1 J8;injection r with s f
 injection f with f x
 obtain⟨b,w',y,z,k,A⟩:=h.list.app (P:=prog) (t:=t) (ty:=ty) a q s f x rfl dD (fun u e=>⟨none,by simpa [Value.cells] using e⟩) ⟨nb,0,none⟩ us.length c (us.map lS) sS o (NZ us) (Du us) p dD hB;have l:=Fp.grown h.list k;refine⟨b,w',y,⟨?_,fun t a=>?_⟩,GB k (fun g C=>(h.list.lt C).1) hB,l,k,A⟩
 . rw[aS,dH]
   exact z
 .
  rcases bD.1 a with a|a
  . exact(h.vs.fp l) t a
  . exact(e.fp l) t a
def jD.app{nb:Nat}{b us:List RT}(h:jD w B v b)(d:wV w us)(e:us.length=m)(f:∀j u,(us.map lS)[j]?=some u->w.cell? ((⟨nb,0,none⟩:Addr).add j)=some u)(g:b.length+m<=1048576)(hB:B<=w.heap.size)(ty:Vr):
 ∃a w',sQ prog 38 ty v (.slice (some ⟨nb,0,none⟩) m c) w=.ok a w'/\jD w' B a (b++us)/\Below B w w'/\Fp w w':=by
 obtain⟨a,w',i,k,l,n,_⟩:=h.Gf underlying38 d e f g hB ty;exact⟨a,w',i,k,l,n⟩
def qv(ts:Am):cW:=fun i=>(ts.map (·.2.1)).getD i 0
def vT{a:Am}{t:RT}(h:a[i]?=some t):qv a i=t.2.1:=by simp[qv,List.getD,h]
def ME(S T U:Vx)(c1 c2 c3 i:Nat)(D:Ad)(H:Ap)(W:Ak)(b:B6)(p:Al)(w:Vz)(hg:∃m,w.cell? ⟨4,0,none⟩=some (.int .i64 m))(L:ja w S T U c1 c2 c3 D H W)(hi:H[i]?=some b)(hb:wL 1048576 D b p)(n1:D.length<=10)(n2:H.length<=24):
 Calls prog 120 #[.agg #[.slice S D.length c1,.slice T H.length c2,.slice U W.length c3],.int .i64 i] w fun e w'=>∃b1 b2,e=.returned (.tuple #[.pointer (some ⟨b1,0,none⟩),.pointer (some ⟨b2,0,none⟩)])/\eT w w' [(b1,p.2.2.1,8388611),(b2,p.2.2.2,8388611)]:=by
 obtain⟨A,B,rx,ry⟩:=p;obtain⟨s,t,x1,y1,x2,y2,Y,Z,z1,z2,z3,z4,q1,q2,q3,q4,e3,e4⟩:=hb.ex;have hA:=hb.a;have hB:=hb.b;simp only at Y Z e3 e4 hA hB;subst e3;subst e4;have ab:=(gZ hi).1;have ad:=(gZ Y).1;have ae:=(gZ Z).1;obtain⟨HG,HF,HI,HS,HT,HZ,HQ⟩:=If (lM hg) L hi Y Z (⟨z1,z2,z3,z4⟩:s.x.size<=1048576/\s.y.size<=1048576/\t.x.size<=1048576/\t.y.size<=1048576) (⟨q1,q2,q3,q4⟩:il s.x.data.toList x1/\il s.y.data.toList y1/\il t.x.data.toList x2/\il t.y.data.toList y2);have iA:((A:Int)<(D.length:Int)):=oO;have iB:((B:Int)<(D.length:Int)):=oO;have iI:((i:Int)<(H.length:Int)):=oO;clear hg L hi Y Z z1 z2 z3 z4 q1 q2 q3 q4 hb;obtain⟨M,I⟩:=nm w.heap.size;obtain⟨V,hV⟩:=nm (w.alloc (.cells #[.slice S D.length c1,.slice T H.length c2,.slice U W.length c3] 26));have r:=Ua hV;have E:SB V M 26 #[.slice S D.length c1,.slice T H.length c2,.slice U W.length c3]:=by rw[<-hV,<-I];exact cK w _ _
 obtain⟨J,N,rfl,af,u0,u1⟩:=(HF.o.below r.o).j.spot HS.o;obtain⟨ag,ah,e',_,u2,u3⟩:=(HF.o.below r.o).j.spot HT.o;cases e';obtain⟨O,bo,rfl,ai,f2,f3,_⟩:=(HF.o.below r.o).b.bar HI.o;rw[hA]at f2;rw[hB]at f3;have f0:=E.cell 0;have f1:=E.cell 1;simp at f0 f1;have P:=E.lt;have aj:V.heap.size≠M:=oO;have ak:V.heap.size+1≠M:=oO;have al:V.heap.size≠J:=oO;have am:V.heap.size+1≠J:=oO;have an:V.heap.size≠O:=oO;have ao:V.heap.size+1≠O:=oO;obtain⟨HV,aa⟩:=Ia hV I;clear hV I E hA hB P;go_enter func120,ntmps120;go_wp2_with fail;rw[HV.o];simp only[aa.o];go_region_held3 (fun v=>v.cell? ⟨M,0,none⟩=some (.slice (some ⟨J,N,none⟩) D.length c1)/\v.cell? ⟨M,1,none⟩=some (.slice (some ⟨O,bo,none⟩) H.length c2)/\v.cell? ⟨O,bo+i*6,none⟩=some (.int .i64 (A:Nat))/\v.cell? ⟨O,bo+i*6+1,none⟩=some (.int .i64 (B:Nat))/\v.cell? ⟨J,N+A*2,none⟩=some (.string s.x)/\v.cell? ⟨J,N+A*2+1,none⟩=some (.string s.y)/\v.cell? ⟨J,N+B*2,none⟩=some (.string t.x)/\v.cell? ⟨J,N+B*2+1,none⟩=some (.string t.y)) ((first|(simp [*];done)|go_keep)) (fail)
 all_goals
  first
  |(obtain⟨X,F,G,hX,h1,h2,K,u,z⟩:∃X F G,((V.alloc (.cells #[.string s.x,.string s.y] 34)).alloc (.cells #[.string t.x,.string t.y] 34)).drew=X/\V.heap.size=F/\V.heap.size+1=G/\Below V.heap.size V X/\SB X F 34 #[.string s.x,.string s.y]/\SB X G 34 #[.string t.x,.string t.y]:=⟨_,_,_,rfl,rfl,rfl,((bR.alloc lZ _).alloc sS _).drew,(cK V _ _).alloc _,ww V _ _ _⟩
    rw[hX,h2,h1])
  |(obtain⟨X,F,G,hX,h1,h2,K,u,z⟩:∃X F G,((V.alloc (.cells #[.string t.x,.string t.y] 34)).alloc (.cells #[.string s.x,.string s.y] 34)).drew=X/\V.heap.size+1=F/\V.heap.size=G/\Below V.heap.size V X/\SB X F 34 #[.string s.x,.string s.y]/\SB X G 34 #[.string t.x,.string t.y]:=⟨_,_,_,rfl,rfl,rfl,((bR.alloc lZ _).alloc sS _).drew,ww V _ _ _,(cK V _ _).alloc _⟩
    rw[hX,h1,h2])
  obtain⟨g,h,Q⟩:=Ib u z (r.o.trans (K.mono r.o.size));have d:=Hi (HG.o.below Q.o).lg;have k:=u.cell 0;have k1:=u.cell 1;have k2:=z.cell 0;have l:=z.cell 1;simp at k k1 k2 l;clear K u z hX h1 h2 f0 f1 f2 f3 u0 u1 u2 u3;go_wp2_with fail;go_region_held3 (fun v=>v.cell? ⟨F,0,none⟩=some (.string s.x)/\v.cell? ⟨F,1,none⟩=some (.string s.y)/\v.cell? ⟨G,0,none⟩=some (.string t.x)/\v.cell? ⟨G,1,none⟩=some (.string t.y)) ((first|(simp [*];done)|go_keep)) (first
   |
    (go_at_call_of 36 (Value.string t.x)
     apply cM;apply zQ (w0:=X) (n:=1048576) t.x;(first|exact d.o|exact d.o.drew);exact HZ.o.2.2.1;omega;rintro e R ⟨q,C,b1,rfl,c⟩;rw[C.inj HQ.o.2.2.1]at c;clear d k k1 k2 l;have d:=Hi c;clear C c;have k:=(g.o.below d.o.base g.o.lt).cell 0;have k1:=(g.o.below d.o.base g.o.lt).cell 1;have k2:=(h.o.below d.o.base h.o.lt).cell 0;have l:=(h.o.below d.o.base h.o.lt).cell 1;simp at k k1 k2 l
     skip)
   |
    (go_at_call_of 36 (Value.string s.x)
     apply cM;apply zQ (w0:=X) (n:=1048576) s.x;(first|exact d.o|exact d.o.drew);exact HZ.o.1;omega;rintro e R ⟨q,C,b2,rfl,c⟩;rw[C.inj HQ.o.1]at c;clear d k k1 k2 l;have d:=Hi c;clear C c;have k:=(g.o.below d.o.base g.o.lt).cell 0;have k1:=(g.o.below d.o.base g.o.lt).cell 1;have k2:=(h.o.below d.o.base h.o.lt).cell 0;have l:=(h.o.below d.o.base h.o.lt).cell 1;simp at k k1 k2 l
     skip)
   |
    (go_at_call_of 121 (Value.pointer (some ⟨b1,0,none⟩))
     apply cM;apply zP (w0:=X);(first|exact d.o|exact d.o.drew);(repeat(first|exact mH|apply mT));omega;rintro e R ⟨b3,rfl,c⟩;clear d k k1 k2 l;have d:=Hi c;clear c;have k:=(g.o.below d.o.base g.o.lt).cell 0;have k1:=(g.o.below d.o.base g.o.lt).cell 1;have k2:=(h.o.below d.o.base h.o.lt).cell 0;have l:=(h.o.below d.o.base h.o.lt).cell 1;simp at k k1 k2 l
     skip)
   |
    (go_at_call_of 36 (Value.string t.y)
     apply cM;apply zQ (w0:=X) (n:=1048576) t.y;(first|exact d.o|exact d.o.drew);exact HZ.o.2.2.2;omega;rintro e R ⟨q,C,b4,rfl,c⟩;rw[C.inj HQ.o.2.2.2]at c;clear d k k1 k2 l;have d:=Hi c;clear C c;have k:=(g.o.below d.o.base g.o.lt).cell 0;have k1:=(g.o.below d.o.base g.o.lt).cell 1;have k2:=(h.o.below d.o.base h.o.lt).cell 0;have l:=(h.o.below d.o.base h.o.lt).cell 1;simp at k k1 k2 l
     skip)
   |
    (go_at_call_of 36 (Value.string s.y)
     apply cM;apply zQ (w0:=X) (n:=1048576) s.y;(first|exact d.o|exact d.o.drew);exact HZ.o.2.1;omega;rintro e R ⟨q,C,b5,rfl,c⟩;rw[C.inj HQ.o.2.1]at c;clear d k k1 k2 l;have d:=Hi c;clear C c;have k:=(g.o.below d.o.base g.o.lt).cell 0;have k1:=(g.o.below d.o.base g.o.lt).cell 1;have k2:=(h.o.below d.o.base h.o.lt).cell 0;have l:=(h.o.below d.o.base h.o.lt).cell 1;simp at k k1 k2 l
     skip)
   |
    (go_at_call_of 121 (Value.pointer (some ⟨b4,0,none⟩))
     apply cM;apply zP (w0:=X);(first|exact d.o|exact d.o.drew);(repeat(first|exact mH|apply mT));omega;rintro e R ⟨b6,rfl,c⟩;clear d k k1 k2 l;have d:=Hi c;clear c;have k:=(g.o.below d.o.base g.o.lt).cell 0;have k1:=(g.o.below d.o.base g.o.lt).cell 1;have k2:=(h.o.below d.o.base h.o.lt).cell 0;have l:=(h.o.below d.o.base h.o.lt).cell 1;simp at k k1 k2 l
     skip)
   |fail)
  all_goals
   clear k k1 k2 l;go_wp2;go_ret2;refine⟨b3,b6,rfl,(by first|exact d.o|exact d.o.drew:eT X _ _).mono Q.o (fun f L=>?_)⟩;simp only[aY,dI,ji]at L;rcases L with rfl|rfl
   . exact⟨_,(by
      (repeat(first|exact mH|apply mT))
      skip),aV _⟩
   . exact⟨_,(by
      (repeat(first|exact mH|apply mT))
      skip),aV _⟩
end Go.Proofs.YtfgclhpgdanmfaaGreatDoor
