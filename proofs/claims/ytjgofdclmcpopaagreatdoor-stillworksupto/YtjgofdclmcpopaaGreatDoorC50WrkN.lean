import Derived.Test.YtjgofdclmcpopaaGreatDoorC49LodB
namespace Go.Proofs.YtjgofdclmcpopaaGreatDoor
open Go.RowKit
open Go.Proofs.Tryz
set_option linter.unusedSimpArgs false
set_option linter.unusedVariables false
set_option maxHeartbeats 8000000
set_option maxRecDepth 1000000
def LoadsOfSays(js:List S2)(bs:List B6)(hs:List H3)(ls:List L3)(vs:List (Nat × Rat × Rat))(w:World)(e:Ending)(w':World):Prop:=
 Below w.heap.size w w'/\∃(lv:Value) (c at_:Int),e=.returned (.tuple #[lv,.agg #[.int .i64 c,.int .i64 at_]])/\
  ((c≠0/\FrameFault js bs hs c at_/\lv=.slice none 0 0)∨
   (FrameFault js bs hs 0 0/\LoadsFault js.length (bs.length+hs.length) ls c at_/\((c≠0/\lv=.slice none 0 0)∨
     (c=0/\at_=0/\∃(g N:Nat) (ts:List RT),N=2*js.length/\lv=.slice (some ⟨g,0,none⟩) N N/\PBlk w' g ts/\ts.length=N/\∀(i:Nat) (t:RT),ts[i]?=some t->t.2.1= -agn vs i/\t.2.2<=kL 20))))
theorem LoadsFault.zero{nj en:Nat}{ls:List L3}{x:Int}(h:LoadsFault nj en ls 0 x):ls.length<=20/\(∀(i:Nat) (y:L3),ls[i]?=some y->IsJ nj y.j)/\x=0:=by
 rcases h with ⟨_,h,_⟩|⟨h1,⟨_,_,_,_,_,h,_⟩|⟨h2,_,h3⟩⟩
 . cases h
 . cases h
 . exact⟨h1,h2,h3⟩
theorem Qo1(a1 a2 a3 al:Option Addr)(c1 c2 c3 cl:Nat)(js:List S2)(bs:List B6)(hs:List H3)(ls:List L3)(vs:List (Nat × Rat × Rat))(w:World)(hg:Glob w)(hf:FrRow w a1 a2 a3 c1 c2 c3 js bs hs)(hz:FrSized js bs hs)(hl:ARow L3.cells w al cl ls)(hv:LVal ls vs)(hll:ls.length<=1048576):
 Calls prog 50 #[.agg #[.slice a1 js.length c1,.slice a2 bs.length c2,.slice a3 hs.length c3],.slice al ls.length cl] w (LoadsOfSays js bs hs ls vs w):=by
 obtain⟨HG,HF,HZ,HL,HLV⟩:=Id hg hf hz hl hv;clear hg hf hz hl hv;obtain⟨B0,hB0⟩:=nm w.heap.size;obtain⟨V,hV⟩:=nm ((w.alloc (.cells #[.slice a1 js.length c1,.slice a2 bs.length c2,.slice a3 hs.length c3] 54)).alloc (.cells #[.int .i64 0,.int .i64 0] 57));have HBV:=Ub hV;have HS0:=Ug hV hB0;have HS1:=Uh hV hB0;obtain⟨HVE,HB0⟩:=Ia hV hB0;have hle:w.heap.size<=B0+1:=by omega
 have HCK:=Hi (Qr3 a1 a2 a3 c1 c2 c3 js bs hs V (HG.o.below HBV.o) (HF.o.below HBV.o) HZ.o);clear hV hB0;go_enter func50,ntmps50;go_wp2_with fail;rw[HVE.o];simp only[HB0.o];go_fit HCK.o;rintro e w1 ⟨c,at_,rfl,hff,hb1⟩;obtain⟨U,hU⟩:=nm (w1.alloc (.cells #[.int .i64 c,.int .i64 at_] 57));obtain⟨G,hG⟩:=nm w1.heap.size;have hbVU:Below V.heap.size V U:=by rw[<-hU];exact hb1.alloc hb1.size _
 obtain⟨HVU,HBU,HU0,HU1⟩:=Ic hbVU (HBV.o.trans (hbVU.mono HBV.o.size)) (HS0.o.below hbVU HS0.o.lt) (HS1.o.below hbVU HS1.o.lt);have HUG:=Uf hU hG;have HFF:=Hi hff;obtain⟨p0,p1,-⟩:=zc HUG.o;obtain⟨x0,x1,x2,-⟩:=zc HU0.o;obtain⟨z0,z1,-⟩:=zc HU1.o;have f0:=HU1.o.free 0;have f1:=HU1.o.free 1;have hne:B0+1≠G:=by have h1:=HS1.o.lt;have h2:=hb1.size;omega
 obtain⟨HUE,HGE⟩:=Ia hU hG;rw[<-hU] at p0 p1 x0 x1 x2 z0 z1 f0 f1;rw[<-hG] at p0 p1 hne;clear hbVU hff hU hG hb1 HCK;by_cases hc:c=0
 .
  subst hc;obtain⟨hnm,_,_,rfl⟩:=HFF.o.few;have n1:js.length<=10:=Nat.le_of_not_lt fun h=>hnm (.inr (.inl h))
  have n2:bs.length<=24:=Nat.le_of_not_lt fun h=>hnm (.inr (.inr (.inl h)))
  have n3:hs.length<=20:=Nat.le_of_not_lt fun h=>hnm (.inr (.inr (.inr h)))
  have HLO:=Hi (Qo0 a1 a2 a3 al c1 c2 c3 cl js.length bs.length hs.length ls vs U (HG.o.below HBU.o).most (HL.o.below HBU.o) HLV.o n1 n2 n3 hll);clear hnm;go_wp2_with fail;rw[HUE.o];clear p0 p1 x0 x1 x2 z0 z1 f0 f1 hne;go_fit HLO.o;rintro e w2 ⟨hb2,c',x',hlf,hres⟩;obtain⟨HLF,HB2⟩:=Ia hlf (HBU.o.trans (hb2.mono HBU.o.size));have hs1:=HU1.o.below hb2 HU1.o.lt;obtain⟨z0,z1,-⟩:=zc hs1;have f0:=hs1.free 0;have f1:=hs1.free 1;have HY1:=Hi hs1;clear hs1 hlf hb2;rcases hres with ⟨hc',rfl⟩|⟨rfl,g,N,ts,hN,rfl,hpb,htl,hq⟩
  .
   go_wp2;refine bodyPost_ret (Qa3 rfl _ _ (B0+1) 57 #[.int .i64 c',.int .i64 x'] (0,0) _ rfl ((HY1.o.set 0 _).set 1 _) underlying57 rfl Tryz.faultInfo) rfl ?_;exact⟨(HB2.o.setCell (p:=⟨B0+1,0,none⟩) hle _).setCell (p:=⟨B0+1,1,none⟩) hle _,_,c',x',rfl,.inr ⟨HFF.o,HLF.o,.inl ⟨hc',rfl⟩⟩⟩
  .
   obtain⟨HPB,HTL,HQ,HN⟩:=Ic hpb htl hq hN;have hx':=HLF.o.zero.2.2;subst hx';clear hpb htl hq hN;go_wp2;refine bodyPost_ret (Qa3 rfl _ _ (B0+1) 57 #[.int .i64 0,.int .i64 0] (0,0) _ rfl ((HY1.o.set 0 _).set 1 _) underlying57 rfl Tryz.faultInfo) rfl ?_;have ho:Only (B0+1) w2 ((w2.setCell ⟨B0+1,0,none⟩ (.int .i64 0)).setCell ⟨B0+1,1,none⟩ (.int .i64 0)):=((Only.refl _ _).setCell _ _).setCell _ _;refine⟨(HB2.o.setCell (p:=⟨B0+1,0,none⟩) hle _).setCell (p:=⟨B0+1,1,none⟩) hle _,_,0,0,rfl,.inr ⟨HFF.o,HLF.o,.inr ⟨rfl,rfl,g,N,ts,HN.o,rfl,⟨HPB.o.blk.only ho (HPB.o.blk.unlike HY1.o (by decide)),fun t ht=>?_⟩,HTL.o,HQ.o⟩⟩⟩;obtain⟨v1,v2,v3⟩:=HPB.o.vs t ht;exact⟨v1.only32 ho HY1.o (by decide) (fun i n h=>by match i,h with|0,h=>simp at h|1,h=>simp at h|i+2,h=>simp at h),v2,v3⟩
 .
  have e0:(c != 0)=true:=by simpa using hc
  go_wp2;go_region
  all_goals
   go_wp2;rw[HUE.o];refine bodyPost_ret (Qa3 rfl _ _ (B0+1) 57 #[.int .i64 c,.int .i64 at_] (0,0) _ rfl ((HU1.o.set 0 _).set 1 _) underlying57 rfl Tryz.faultInfo) rfl ?_;exact⟨((HBU.o.setCell (p:=⟨B0+1,0,none⟩) hle _).setCell (p:=⟨B0+1,1,none⟩) hle _).drew,_,c,at_,rfl,.inl ⟨hc,HFF.o,rfl⟩⟩
end Go.Proofs.YtjgofdclmcpopaaGreatDoor
namespace Go.Proofs.YtjgofdclmcpopaaGreatDoor
open Go.Proofs.Tryz
set_option linter.unusedSimpArgs false
set_option linter.unusedVariables false
set_option maxHeartbeats 8000000
set_option maxRecDepth 1000000
theorem Qa4:∀(n:Nat) (r x:Vec),dot n r x=dot n x r
 |0,_,_=>rfl
 |n+1,r,x=>by rw[dot,dot,Qa4 n r x,Rat.mul_comm (r n)]
theorem Qvn(N W:Nat)(M:Nat->Vec)(v x:Vec):dot N v (fun i=>dot W (M i) x)=dot W x (fun c=>dot N v (fun i=>M i c)):=by
 induction N with
 |zero=>exact(Qa1 W _ _ (fun c _=>by show x c*(0:Rat)=0;grind)).symm
 |succ N ih=>
  have e:∀V:Nat,dot V x (fun c=>dot (N+1) v (fun i=>M i c))=dot V x (fun c=>dot N v (fun i=>M i c))+v N*dot V (M N) x:=by
   intro V
   induction V with
   |zero=>simp only[dot];grind
   |succ V ih2=>simp only[dot] at ih2 ⊢;rw[ih2];grind
  rw[e W,<-ih];rfl
def laidAt(ρ:Nat->Nat)(m:Vec):Nat->Vec
 |0=>fun _=>0
 |r+1=>upd (laidAt ρ m r) (ρ r) (laidAt ρ m r (ρ r)+m r)
theorem Qda{N:Nat}(ρ:Nat->Nat)(m s:Vec):∀r,(∀i,i<r->ρ i<N)->dot N s (laidAt ρ m r)=dot r (fun i=>s (ρ i)) m
 |0,_=>Qa1 N _ _ (fun c _=>by show s c*(0:Rat)=0;grind)
 |r+1,h=>by
  rw[laidAt,Qb7 _ _ _ _ _ (h r (by omega)),Qda ρ m s r (fun i hi=>h i (by omega))]
  show _=dot r (fun i=>s (ρ i)) m+s (ρ r)*m r
  grind
def colV(N:Nat)(M:Nat->Vec)(c:Nat):Vec:=fun i=>if i<N then M i c else 0
theorem Qvo(N:Nat)(M:Nat->Vec)(c:Nat)(x:Vec):dot N (colV N M c) x=dot N x (fun i=>M i c):=by
 rw[Qa4];exact Qae N _ _ _ _ (fun i hi=>by simp only[colV,if_pos hi])
theorem Qlj{N W r:Nat}{M:Nat->Vec}{T S:List Vec}(ρ:Nat->Nat)(hρ:∀i,i<r->ρ i<N)(hind:∀m:Vec,(∀c,c<W->dot r m (fun i=>M (ρ i) c)=0)->∀i,i<r->m i=0)
 (hT:∀x,Null N T x↔∀c,c<W->dot N (colV N M c) x=0) (hS:∀x,Null N T x↔Null N S x):r<=S.length:=by
 apply bC;intro hlt;obtain⟨m,hm,c,hc,hne⟩:=Qqw (W:=r) (M:=S.map (fun s i=>s (ρ i))) (by rw[List.length_map];omega);refine hne (hind m (fun c hc=>?_) c hc);have h1:Null N S (laidAt ρ m r):=fun s hs=>by
  rw[Qda ρ m s r hρ];exact hm _ (List.mem_map.2 ⟨s,hs,rfl⟩)
 have h2:=(hT _).1 ((hS _).2 h1) c hc;rw[Qda ρ m _ r hρ,Qa4] at h2;rw[<-h2];exact Qae r _ _ _ _ (fun i hi=>by simp only[colV,if_pos (hρ i hi)])
theorem Qvp{W:Nat}{S:List Vec}{hs:List Nat}(he:Cln 0 W S hs)(y b:Vec)(hy:Null W S y)(hb:∀c,c<W->c ∉ hs->dot W b (nullF c S hs hs.length)=0):dot W b y=0:=by
 have key:∀k,k<=W->∃z:Vec,Null W S z/\(∀c,c<W->c ∉ hs->c<k->z c=0)/\dot W b z=dot W b y:=by
  intro k
  induction k with
  |zero=>exact fun _=>⟨y,hy,fun c _ _ h=>absurd h (Nat.not_lt_zero _),rfl⟩
  |succ k ih=>
   intro hk;obtain⟨z,z1,z2,z3⟩:=ih (by omega);by_cases hm:k∈ hs
   .
    exact⟨z,z1,fun c hc hn hck=>z2 c hc hn (by
     rcases Nat.lt_or_ge c k with h|h
     . exact h
     . exact absurd hm (by rw[show k=c by omega];exact hn)),z3⟩
   .
    have hnl:=Qjc he (c:=k) (by omega) hm;refine⟨fun i=>z i - nullF k S hs hs.length i*z k,fun r hr=>?_,fun c hc hn hck=>?_,?_⟩
    .
     rw[Qfn,z1 r hr];have:dot W r (fun i=>nullF k S hs hs.length i*z k)=dot W r (nullF k S hs hs.length)*z k:=by
      rw[Qa4,Qa4 W r];exact Qca W _ r (z k)
     rw[this,hnl r hr];grind
    .
     by_cases hck':c=k
     .
      subst hck'
      show z c - nullF c S hs hs.length c*z c=0
      rw[Qqu he.ech.len hn];grind
     .
      show z c - nullF k S hs hs.length c*z k=0
      rw[Qqv he.ech.len hn hck',z2 c hc hn (by omega)];grind
    .
     rw[Qfn,z3];have:dot W b (fun i=>nullF k S hs hs.length i*z k)=dot W b (nullF k S hs hs.length)*z k:=by
      rw[Qa4,Qa4 W b];exact Qca W _ b (z k)
     rw[this,hb k (by omega) hm];grind
 obtain⟨z,z1,z2,z3⟩:=key W lZ;rw[<-z3];refine Qa1 W _ _ (fun c hc=>?_);by_cases hm:c∈ hs
 . rw[he.ech.uniq W z lZ z1 (fun d hd hn=>.inl (z2 d hd hn hd)) c hm]
   grind
 . rw[z2 c hc hm hc]
   grind
theorem Ech.cnt:∀{S:List Vec} {hs:List Nat} {lo hi:Nat},Ech lo hi S hs->∀k,hs.countP (fun c=>decide (c<k+1))=hs.countP (fun c=>decide (c<k))+if k∈ hs then 1 else 0
 | [],[],_,_,_,k=>by simp
 |r :: S,h :: hs,lo,hi,⟨_,_,_,h4⟩,k=>by
  have ih:=h4.cnt k;rw[List.countP_cons,List.countP_cons,ih];have hgt:∀c,c∈ hs->h<c:=fun c hc=>by have:=(h4.head c hc).1;omega
  by_cases e:k=h
  .
   have hn:k ∉ hs:=fun hk=>by have:=hgt k hk;omega
   have m:k∈ h :: hs:=by rw[e];exact .head _
   have a1:h<k+1:=by omega
   have a2:¬h<k:=by omega
   simp only[if_neg hn,if_pos m,decide_eq_true a1,decide_eq_false a2,if_true];simp
  .
   by_cases hk:k∈ hs
   .
    have m:k∈ h :: hs:=.tail _ hk;have:=hgt k hk;have a1:h<k+1:=by omega
    have a2:h<k:=by omega
    simp only[if_pos hk,if_pos m,decide_eq_true a1,decide_eq_true a2,if_true]
   .
    have m:¬k∈ h :: hs:=fun hm=>by
     rcases List.mem_cons.1 hm with q|q
     . exact e q
     . exact hk q
    by_cases h1:h<k
    . have a1:h<k+1:=by omega
      simp only[if_neg hk,if_neg m,decide_eq_true a1,decide_eq_true h1,if_true]
    .
     have a1:¬h<k+1:=by omega
     simp only[if_neg hk,if_neg m,decide_eq_false a1,decide_eq_false h1];simp
 | [],_ :: _,_,_,h,_=>h.elim
 |_ :: _,[],_,_,h,_=>h.elim
theorem Ech.free{S:List Vec}{hs:List Nat}{W:Nat}(h:Ech 0 W S hs):(freeTo hs W).length+hs.length=W:=by
 have key:∀k,(freeTo hs k).length+hs.countP (fun c=>decide (c<k))=k:=by
  intro k
  induction k with
  |zero=>simp[freeTo]
  |succ k ih=>
   rw[Qf3,h.cnt k];by_cases hk:k∈ hs
   . rw[if_pos hk,if_pos hk];omega
   . rw[if_neg hk,if_neg hk,List.length_append,List.length_singleton];omega
 have:=key W;rw[List.countP_eq_length.2 (fun c hc=>by simpa using (h.head c hc).2)] at this;exact this
theorem Qlk(W:Nat)(M:List Vec)(hz:∀v,v∈ M->∀i,W<=i->v i=0):∀c,c<=W->∃(L S:List Vec) (hs:List Nat),Elim W M c L S hs/\MI W M.length M c L S hs
 |0,_=>⟨M,[],[],Elim.start W M,MI.start W _ M hz (.inl lZ)⟩
 |c+1,hc=>by
  obtain⟨L,S,hs,he,hm⟩:=Qlk W M hz c (by omega);by_cases h:∀r,r∈ L->r c=0
  . exact⟨L,S,hs,he.skip h,hm.skip⟩
  .
   obtain⟨s,hs1,hs2⟩:∃s,s∈ L/\s c≠0:=by
    apply bC;intro hn;exact h fun r hr=>bC fun h0=>hn ⟨r,hr,h0⟩
   obtain⟨j,hj,hj2⟩:=List.getElem_of_mem hs1;have hj3:L[j]?=some s:=by rw[gE hj,hj2]
   exact⟨_,_,_,he.step hj3 hs2,hm.step hj3 hs2⟩
theorem Qvq{N W:Nat}{M:Nat->Vec}{b:Vec}(hz:∀i c,W<=c->M i c=0)(hn:∀x,¬Sol W ((List.range N).map M) ((List.range N).map b) x):∃y:Vec,(∀c,c<W->dot N (colV N M c) y=0)/\dot N b y≠0:=by
 obtain⟨M',hM'⟩:∃M',List.zipWith (wider W) ((List.range N).map M) ((List.range N).map b)=M':=⟨_,rfl⟩;have hat:∀r,r∈ M'->∃t,t<N/\r=wider W (M t) (b t):=fun r hr=>by
  rw[<-hM'] at hr;obtain⟨t,ht,e⟩:=List.getElem_of_mem hr;have htN:t<N:=by simpa using ht
  refine⟨t,htN,?_⟩;rw[<-e];simp
 obtain⟨L,S,hs,he,hm⟩:=Qlk (W+1) M' (fun v hv i hi=>by
  obtain⟨t,_,rfl⟩:=hat v hv;unfold wider;rw[if_neg (by omega)]
  exact hz t i (by omega)) (W+1) lZ
 obtain⟨h1,h2⟩:=he.done;rw[<-hM'] at h2;have hW:W∈ hs:=by
  apply bC;intro hW;by_cases hl:hs.length<W
  . obtain⟨x,_,hx,_⟩:=Qfo h1 h2 hW hl
    exact hn x hx
  . obtain⟨_,_,h3⟩:=Qfp h1 h2 hW hl
    exact hn (fun i=>((cln S hs).getD i (fun _=>0)) W) ((h3 _).2 (fun i v hv=>by simp[List.getD,hv]))
 obtain⟨s,hs1,hs2,hs3⟩:=h1.row W hW;obtain⟨_,_,_,R,hR,_,_,hSp⟩:=hm;obtain⟨l,hl⟩:=hSp s hs1;have hex:∀i:Nat,∃t:Nat,i<hs.length->t<N/\R i=wider W (M t) (b t):=fun i=>by
  by_cases hi:i<hs.length
  . obtain⟨t,h1,h2⟩:=hat (R i) (hR i hi)
    exact⟨t,fun _=>⟨h1,h2⟩⟩
  . exact⟨0,fun h=>absurd h hi⟩
 obtain⟨ρ,hρ⟩:=Classical.axiomOfChoice hex;have hlt:∀i,i<hs.length->ρ i<N:=fun i hi=>(hρ i hi).1
 refine⟨laidAt ρ l hs.length,fun c hc=>?_,?_⟩
 .
  rw[Qda ρ l _ hs.length hlt,<-hs3 c hc,hl c,Qa4];exact Qae _ _ _ _ _ (fun i hi=>by
   rw[(hρ i hi).2]
   simp only[colV,if_pos (hlt i hi),wider,if_neg (Nat.ne_of_lt hc)])
 .
  rw[Qda ρ l _ hs.length hlt];intro h0;apply hs2;rw[hl W,<-h0,Qa4];exact Qae _ _ _ _ _ (fun i hi=>by
   rw[(hρ i hi).2]
   simp only[wider,if_pos])
theorem Qll{N W:Nat}{M:Nat->Vec}{b x:Vec}(h:Sol W ((List.range N).map M) ((List.range N).map b) x)(v:Vec):dot N b v=dot W x (fun c=>dot N (colV N M c) v):=by
 have hb:∀i,i<N->b i=dot W (M i) x:=fun i hi=>(h i (M i) (b i) (by rw[List.getElem?_map,List.getElem?_range hi];rfl) (by rw[List.getElem?_map,List.getElem?_range hi];rfl)).symm
 rw[Qa4,Qae N v b v (fun i=>dot W (M i) x) (fun i hi=>by rw[hb i hi]),Qvn];exact Qae W _ _ _ _ (fun c _=>by rw[Qvo])
section
variable {n P b K1 K2:Nat} {js:List S2} {bs:List B6} {hs:List H3} {vb:List (Nat × Nat × Rat × Rat)} {vh:List Nat}
theorem Qen(x:Vec):Null (2*js.length) (balCols js.length vb bs.length vh hs.length) x↔∀c,c<bs.length+hs.length->dot (2*js.length) (colV (2*js.length) (balM vb bs.length vh) c) x=0:=by
 constructor
 . intro h c hc
   exact h _ (List.mem_map.2 ⟨c,List.mem_range.2 hc,rfl⟩)
 .
  intro h r hr;obtain⟨c,hc,rfl⟩:=List.mem_map.1 hr;exact h c (List.mem_range.1 hc)
theorem MI.rows_ind{W0 N0 c:Nat}{Ml:List Vec}{L S:List Vec}{hh:List Nat}{N W:Nat}{M:Nat->Vec}(hm:MI W0 N0 Ml c L S hh)(hM:∀r,r∈ Ml->∃t,t<N/\∀c,c<W->r c=M t c)(hW:∀h,h∈ hh->h<W):
 ∃ρ:Nat->Nat,(∀i,i<hh.length->ρ i<N)/\∀m:Vec,(∀c,c<W->dot hh.length m (fun i=>M (ρ i) c)=0)->∀i,i<hh.length->m i=0:=by
 obtain⟨_,_,_,R,hR,hI,_,_⟩:=hm;have hex:∀i:Nat,∃t:Nat,i<hh.length->t<N/\∀c,c<W->R i c=M t c:=fun i=>by
  by_cases hi:i<hh.length
  . obtain⟨t,h1,h2⟩:=hM (R i) (hR i hi)
    exact⟨t,fun _=>⟨h1,h2⟩⟩
  . exact⟨0,fun h=>absurd h hi⟩
 obtain⟨ρ,hρ⟩:=Classical.axiomOfChoice hex;refine⟨ρ,fun i hi=>(hρ i hi).1,fun m h=>hI m (fun c hc=>?_)⟩;rw[<-h c (hW c hc)];exact Qae _ _ _ _ _ (fun i hi=>by rw[(hρ i hi).2 c (hW c hc)])
theorem ranks{La Sa Lb Sb:List Vec}{ha hb:List Nat}(h1:MJ (bs.length+hs.length) 20 K1 (balRows js.length vb bs.length vh) (bs.length+hs.length) La Sa ha)(h2:MJ (2*js.length) 20 K2 (balCols js.length vb bs.length vh hs.length) (2*js.length) Lb Sb hb):Sa.length=hb.length:=by
 obtain⟨e1,u1⟩:=h1.1.done;obtain⟨e2,u2⟩:=h2.1.done;have l1:=e1.len;have l2:=e2.len;apply Nat.le_antisymm
 .
  obtain⟨ρ,r1,r2⟩:=h1.2.1.rows_ind (N:=2*js.length) (W:=bs.length+hs.length) (M:=balM vb bs.length vh) (fun r hr=>by
   obtain⟨t,ht,rfl⟩:=List.mem_map.1 hr
   exact⟨t,List.mem_range.1 ht,fun _ _=>rfl⟩) (fun h hh=>(e1.head h hh).2)
  rw[l1,<-l2];exact Qlj ρ r1 r2 Qen u2
 .
  obtain⟨ρ,r1,r2⟩:=h2.2.1.rows_ind (N:=bs.length+hs.length) (W:=2*js.length) (M:=fun c i=>balM vb bs.length vh i c) (fun r hr=>by
   obtain⟨t,ht,rfl⟩:=List.mem_map.1 hr
   exact⟨t,List.mem_range.1 ht,fun c hc=>if_pos hc⟩) (fun h hh=>(e2.head h hh).2)
  refine Qlj (M:=fun c i=>balM vb bs.length vh i c) (W:=2*js.length) ρ r1 r2 (T:=balRows js.length vb bs.length vh) (fun x=>⟨fun h c hc=>?_,fun h r hr=>?_⟩) u1
  . rw[<-h _ (List.mem_map.2 ⟨c,List.mem_range.2 hc,rfl⟩)]
    exact Qae _ _ _ _ _ (fun i hi=>by simp only[colV,if_pos hi])
  .
   obtain⟨c,hc,rfl⟩:=List.mem_map.1 hr;rw[<-h c (List.mem_range.1 hc)];exact Qae _ _ _ _ _ (fun i hi=>by simp only[colV,if_pos hi])
end
theorem Qlm(r x:Vec):∀n,dot (2*n) r x=sumQ n (fun q=>r (2*q)*x (2*q)+r (2*q+1)*x (2*q+1))
 |0=>rfl
 |n+1=>by
  rw[show 2*(n+1)=2*n+1+1 by omega]
  show dot (2*n) r x+r (2*n)*x (2*n)+r (2*n+1)*x (2*n+1)=sumQ n _+_
  rw[Qlm r x n];grind
theorem Qvr{n:Nat}{p:Nat × Nat × Rat × Rat}(v:Vec)(h1:p.1<n)(h2:p.2.1<n)(h3:p.1≠p.2.1):dot (2*n) (fun i=>if i<2*n then barAt p i else 0) v= -(p.2.2.1*(v (2*p.2.1) - v (2*p.1))+p.2.2.2*(v (2*p.2.1+1) - v (2*p.1+1))):=by
 rw[Qae (2*n) _ v (barAt p) v (fun i hi=>by rw[if_pos hi]),Qlm,Qjg n _ p.1 p.2.1 h1 h2 h3 (fun q _ ha hb=>?_)]
 .
  have a1:barAt p (2*p.1)=p.2.2.1:=if_pos rfl;have a2:barAt p (2*p.1+1)=p.2.2.2:=by unfold barAt;rw[if_neg (by omega),if_neg (by omega),if_pos rfl]
  have a3:barAt p (2*p.2.1)= -p.2.2.1:=by unfold barAt;rw[if_neg (by omega),if_pos rfl]
  have a4:barAt p (2*p.2.1+1)= -p.2.2.2:=by unfold barAt;rw[if_neg (by omega),if_neg (by omega),if_neg (by omega),if_pos rfl]
  simp only[a1,a2,a3,a4];grind
 .
  have a1:barAt p (2*q)=0:=by unfold barAt;rw[if_neg (by omega),if_neg (by omega),if_neg (by omega),if_neg (by omega)]
  have a2:barAt p (2*q+1)=0:=by unfold barAt;rw[if_neg (by omega),if_neg (by omega),if_neg (by omega),if_neg (by omega)]
  simp only[a1,a2];grind
theorem Going.last{K:Nat}{I:Nat->List Vec->List Vec->List Nat->Prop}(h:Going K I){M:List Vec}(h0:I 0 M [] []):∀W,∃L S hs,I W L S hs
 |0=>⟨M,[],[],h0⟩
 |W+1=>by
  obtain⟨L,S,hs,hi⟩:=h.last h0 W;by_cases hz:∀r,r∈ L->r W=0
  . exact⟨L,S,hs,h.skip hi hz⟩
  .
   obtain⟨s,hs1,hs2⟩:∃s,s∈ L/\s W≠0:=by
    apply bC;intro hn;exact hz fun r hr=>bC fun h0=>hn ⟨r,hr,h0⟩
   obtain⟨j,hj⟩:=List.mem_iff_getElem?.1 hs1;exact⟨_,_,_,h.step hi hj hs2⟩
theorem Qgq(b v:Vec):∀N,dot N (fun i=>-(b i)) v= -dot N b v
 |0=>by simp only[dot];grind
 |N+1=>by
  show dot N (fun i=>-(b i)) v+ -(b N)*v N= -(dot N b v+b N*v N)
  rw[Qgq b v N];grind
theorem Qln(y f:Vec)(n:Nat):∀m,dot (n+m) y f=dot n y f+sumQ m (fun i=>y (n+i)*f (n+i))
 |0=>by simp only[sumQ];rw[Nat.add_zero];grind
 |m+1=>by
  show dot (n+m) y f+y (n+m)*f (n+m)=_
  rw[Qln y f n m];simp only[sumQ];grind
theorem Qlo(y f:Vec):∀n,dot n y f=sumQ n (fun i=>y i*f i)
 |0=>rfl
 |n+1=>by
  show dot n y f+y n*f n=_
  rw[Qlo y f n];rfl
theorem Qgr{f g:Nat->Rat}:∀n,(∀i,i<n->f i=g i)->sumQ n f=sumQ n g
 |0,_=>rfl
 |n+1,h=>by
  simp only[sumQ];rw[Qgr n (fun i hi=>h i (by omega)),h n (by omega)]
theorem Qlp(f:Nat->Rat):∀n,sumQ n (fun i=>-(f i))= -sumQ n f
 |0=>by simp only[sumQ];grind
 |n+1=>by
  simp only[sumQ];rw[Qlp f n];grind
theorem Qlq{p:Nat × Nat × Rat × Rat}{n:Nat}{v x:Vec}(h1:p.1<n)(h2:p.2.1<n)(h:∀i,i<2*n->v i=x i):stretch p v=stretch p x:=by
 unfold stretch;rw[h (2*p.2.1) (by omega),h (2*p.1) (by omega),h (2*p.2.1+1) (by omega),h (2*p.1+1) (by omega)]
theorem Qvs{ss:List S2}{ts:List RT}{K:Nat}{x:Vec}(h:MotVals ss ts K)(ht:SpotsTold x ss):∀i,i<2*ss.length->qv ts i=x i:=fun i hi=>by
 obtain⟨q,hq⟩:∃q,q=i / 2:=⟨_,rfl⟩;obtain⟨s,hs⟩:∃s,ss[q]?=some s:=⟨ss[q]'(by omega),gE _⟩;obtain⟨t,u,h1,h2,h3,h4,_⟩:=h.val q s hs;obtain⟨t1,t2⟩:=ht q s hs;rcases Nat.mod_two_eq_zero_or_one i with hm|hm
 .
  obtain rfl:i=2*q:=by omega
  rw[qv_at h1];exact h3.inj (QText.back t1)
 .
  obtain rfl:i=2*q+1:=by omega
  rw[qv_at h2];exact h4.inj (QText.back t2)
theorem MotVals.k{ss:List S2}{ts:List RT}{K:Nat}(h:MotVals ss ts K):∀t,t∈ ts->t.2.2<=K:=fun t ht=>by
 obtain⟨i,hi⟩:=List.mem_iff_getElem?.1 ht;have hil:=(gZ hi).1;have hl:=h.len;obtain⟨q,hq⟩:∃q,q=i / 2:=⟨_,rfl⟩;obtain⟨s,hs⟩:∃s,ss[q]?=some s:=⟨ss[q]'(by omega),gE _⟩;obtain⟨t',u,h1,h2,_,_,h5,h6⟩:=h.val q s hs;rcases Nat.mod_two_eq_zero_or_one i with hm|hm
 .
  obtain rfl:i=2*q:=by omega
  rw[h1] at hi;obtain rfl:=Option.some.inj hi;omega
 .
  obtain rfl:i=2*q+1:=by omega
  rw[h2] at hi;obtain rfl:=Option.some.inj hi;omega
theorem Qvt{ss:List S2}{x:Vec}{K:Nat}(ht:SpotsTold x ss)(hf:∀i,Fits (x i) K):∀s,s∈ ss->s.x.size<=2*K+4/\s.y.size<=2*K+4:=fun s hs=>by
 obtain⟨i,hi⟩:=List.mem_iff_getElem?.1 hs;obtain⟨t1,t2⟩:=ht i s hi;exact⟨QText.len t1 (hf _),QText.len t2 (hf _)⟩
section
variable {n P b K1 K2:Nat} {js:List S2} {bs:List B6} {hs:List H3} {vb:List (Nat × Nat × Rat × Rat)} {vh:List Nat} {vs:List (Nat × Rat × Rat)}
theorem Qvu(hp:FrLP P b vb vs)(hv:FrV n js bs hs vb vh):
 Going (kE b) (MJ (bs.length+hs.length+1) 20 (kC b) (List.zipWith (wider (bs.length+hs.length)) (balRows js.length vb bs.length vh) ((List.range (2*js.length)).map (agn vs))))/\MJ (bs.length+hs.length+1) 20 (kC b) (List.zipWith (wider (bs.length+hs.length)) (balRows js.length vb bs.length vh) ((List.range (2*js.length)).map (agn vs))) 0 (List.zipWith (wider (bs.length+hs.length)) (balRows js.length vb bs.length vh) ((List.range (2*js.length)).map (agn vs))) [] []/\
 ∀L S hh,MJ (bs.length+hs.length+1) 20 (kC b) (List.zipWith (wider (bs.length+hs.length)) (balRows js.length vb bs.length vh) ((List.range (2*js.length)).map (agn vs))) (bs.length+hs.length+1) L S hh->(Ech 0 (bs.length+hs.length+1) S hh/\∀x,Null (bs.length+hs.length+1) (List.zipWith (wider (bs.length+hs.length)) (balRows js.length vb bs.length vh) ((List.range (2*js.length)).map (agn vs))) x↔Null (bs.length+hs.length+1) S x)/\clnFits (kW b) S hh/\∀v,v∈ cln S hh->∀i,Fits (v i) (kC b):=by
 have hag:∀i,Wh P b (agn vs i):=fun i=>by
  have:=hp.agn vs.length i;rw[List.take_length] at this;exact this
 exact Qdf hp.pos hp.le (fun r hr j=>by
  obtain⟨m,hm,v,hv',rfl⟩:=Qck hr;obtain⟨k,_,rfl⟩:=List.mem_map.1 hm;obtain⟨i,_,rfl⟩:=List.mem_map.1 hv';unfold wider
  split
  . exact hag _
  . exact hp.at _ _) (fun r hr i hi=>by
  obtain⟨m,hm,v,hv',rfl⟩:=Qck hr;obtain⟨k,_,rfl⟩:=List.mem_map.1 hm;unfold wider;rw[if_neg (by omega)]
  exact Qbv hv.lb hv.lh _ i (by omega)) (.inl (by
  have:=hv.j;simp only[List.length_zipWith,balRows,List.length_map,List.length_range]
  omega))
theorem Qvv(hp:FrLP P b vb vs)(hv:FrV n js bs hs vb vh){us:List FE}(hl:us.length=bs.length+hs.length)(hu:∀y,Sol (bs.length+hs.length) (balRows js.length vb bs.length vh) ((List.range (2*js.length)).map (agn vs)) y↔∀(i:Nat) (t:FE),us[i]?=some t->y i=t.q):∀t,t∈ us->Fits t.q (kC b):=by
 obtain⟨hgo,hst,hen⟩:=Qvu hp hv;obtain⟨L,S,hh,hI⟩:=hgo.last hst (bs.length+hs.length+1);obtain⟨⟨he,hn⟩,_,hf⟩:=hen L S hh hI;obtain⟨y0,hy⟩:∃y0:Vec,y0=fun i=>(us.map (·.q)).getD i 0:=⟨_,rfl⟩
 have hy0:=(hu y0).2 (fun i t hi=>by rw[hy];simp[List.getD,hi]);have hw:bs.length+hs.length ∉ hh:=fun hw=>Qih he hn hw y0 hy0
 have hll:¬hh.length<bs.length+hs.length:=fun hlt=>by
  obtain⟨x,y,hx,hy,c,hc,hne⟩:=Qfo he hn hw hlt;obtain⟨t,ht⟩:∃t,us[c]?=some t:=⟨us[c]'(by omega),gE _⟩;exact hne (((hu x).1 hx c t ht).trans ((hu y).1 hy c t ht).symm)
 obtain⟨hlen,hall,hs'⟩:=Qfp he hn hw hll;intro t ht;obtain⟨i,hi⟩:=List.mem_iff_getElem?.1 ht;have hil:=(gZ hi).1;obtain⟨r,hr⟩:∃r,(cln S hh)[i]?=some r:=⟨(cln S hh)[i]'(by rw[Qb9 S hh he.len,he.len];omega),gE _⟩;have h1:=(hs' y0).1 hy0 i r hr;have h2:=(hu y0).1 hy0 i t hi;rw[<-h2,h1];exact hf r (mO hr) _
theorem Qvw(hp:FrP P b vb)(hv:FrV n js bs hs vb vh){L S:List Vec}{hh:List Nat}(h:MJ (2*js.length) 20 (kC b) (balCols js.length vb bs.length vh hs.length) (2*js.length) L S hh){x:Vec}(hx:x∈ (freeTo hh (2*js.length)).map (fun c=>nullF c (cln S hh) hh hh.length)):Null (2*js.length) (balCols js.length vb bs.length vh hs.length) x/\∀i,Fits (x i) (kC b):=by
 obtain⟨_,_,hen⟩:=hp.cols hv;obtain⟨⟨he,hn⟩,_,hf⟩:=hen L S hh h;obtain⟨c,hc,rfl⟩:=List.mem_map.1 hx;obtain⟨c1,c2⟩:=freeTo_mem.1 hc;obtain⟨k1,k2⟩:=Qb8 (2*js.length) he;have hl:(cln S hh).length=hh.length:=by rw[Qb9 S hh he.len,he.len]
 refine⟨(hn _).2 ((k2 _).1 (Qjc k1 c1 c2)),fun i=>?_⟩;exact Qja (fun q=>Fits q (kC b)) (Fits.zero.mono (by simp only[kC];omega)) (Fits.one.mono (by simp only[kC];omega)) (fun r hr=>(hf r hr c).neg) hl hh.length lZ i
theorem Qlr(hv:FrV n js bs hs vb vh)(v:Vec){i:Nat}{p:Nat × Nat × Rat × Rat}(hi:vb[i]?=some p)(h1:p.1<js.length)(h2:p.2.1<js.length)(h3:p.1≠p.2.1):dot (2*js.length) (colV (2*js.length) (balM vb bs.length vh) i) v= -stretch p v:=by
 rw[show colV (2*js.length) (balM vb bs.length vh) i=fun r=>if r<2*js.length then barAt p r else 0 from by
  funext r
  simp only[colV,balM,hi]]
 exact Qvr v h1 h2 h3
theorem Qvx(hv:FrV n js bs hs vb vh)(v:Vec){i r:Nat}(hi:vh[i]?=some r)(hr:r<2*js.length):dot (2*js.length) (colV (2*js.length) (balM vb bs.length vh) (bs.length+i)) v=v r:=by
 have e:∀q,q<2*js.length->colV (2*js.length) (balM vb bs.length vh) (bs.length+i) q=if q=r then 1 else 0:=fun q hq=>by
  have hn:vb[bs.length+i]?=none:=List.getElem?_eq_none (by have:=hv.lb;omega);simp only[colV,if_pos hq,balM,hn,Nat.add_sub_cancel_left,hi];by_cases h:q=r
  . rw[if_pos ⟨by omega,h⟩,if_pos h]
  . rw[if_neg (fun k=>h k.2),if_neg h]
 rw[Qcr _ _ _ r hr (fun c hc hne=>by rw[e c hc,if_neg hne];grind),e r hr,if_pos rfl];grind
theorem Qls(hv:FrV n js bs hs vb vh){x:Vec}(hx:Null (2*js.length) (balCols js.length vb bs.length vh hs.length) x){i:Nat}{p:Nat × Nat × Rat × Rat}(hi:vb[i]?=some p)(h1:p.1<js.length)(h2:p.2.1<js.length)(h3:p.1≠p.2.1):stretch p x=0:=by
 have hil:=(gZ hi).1;have h:=(Qen x).1 hx i (by have:=hv.lb;omega);rw[Qlr hv x hi h1 h2 h3] at h;grind
theorem Qvy(hp:FrP P b vb)(hv:FrV n js bs hs vb vh){L S:List Vec}{hh:List Nat}(h:MJ (2*js.length) 20 (kC b) (balCols js.length vb bs.length vh hs.length) (2*js.length) L S hh)(hn:∀x,¬Sol (bs.length+hs.length) (balRows js.length vb bs.length vh) ((List.range (2*js.length)).map (agn vs)) x):∃x,x∈ (freeTo hh (2*js.length)).map (fun c=>nullF c (cln S hh) hh hh.length)/\dot (2*js.length) (agn vs) x≠0:=by
 obtain⟨y,hy1,hy2⟩:=Qvq (N:=2*js.length) (W:=bs.length+hs.length) (M:=balM vb bs.length vh) (b:=agn vs) (fun i c hc=>Qbv hv.lb hv.lh i c hc) hn;obtain⟨_,_,hen⟩:=hp.cols hv;obtain⟨⟨he,hnn⟩,_,_⟩:=hen L S hh h;obtain⟨k1,k2⟩:=Qb8 (2*js.length) he;have hN:=(k2 y).2 ((hnn y).1 ((Qen y).2 hy1));apply bC;intro hno;refine hy2 (Qvp k1 y (agn vs) hN (fun c hc hm=>?_));apply bC;intro hd;exact hno ⟨_,List.mem_map.2 ⟨c,freeTo_mem.2 ⟨hc,hm⟩,rfl⟩,hd⟩
theorem Qvz{y:Vec}(hs':Sol (bs.length+hs.length) (balRows js.length vb bs.length vh) ((List.range (2*js.length)).map (agn vs)) y){x:Vec}(hx:Null (2*js.length) (balCols js.length vb bs.length vh hs.length) x):dot (2*js.length) (agn vs) x=0:=by
 rw[Qll (M:=balM vb bs.length vh) hs' x];exact Qa1 _ _ _ (fun c hc=>by rw[(Qen x).1 hx c hc];grind)
def barSum(vb:List (Nat × Nat × Rat × Rat))(y v:Vec)(k:Nat):Rat:=sumQ k (fun i=>y i*stretch (vb.getD i (0,0,0,0)) v)
def holdSum(nb:Nat)(vh:List Nat)(y v:Vec)(k:Nat):Rat:=sumQ k (fun i=>y (nb+i)*v (vh.getD i 0))
theorem Qv0(hv:FrV n js bs hs vb vh)(hb:∀p,p∈ vb->p.1<js.length/\p.2.1<js.length/\p.1≠p.2.1)(hh:∀r,r∈ vh->r<2*js.length){y:Vec}(hs':Sol (bs.length+hs.length) (balRows js.length vb bs.length vh) ((List.range (2*js.length)).map (agn vs)) y)(v:Vec):barSum vb y v bs.length - holdSum bs.length vh y v hs.length= -dot (2*js.length) (agn vs) v:=by
 rw[Qll (M:=balM vb bs.length vh) hs' v,Qln,Qlo];have e1:sumQ bs.length (fun i=>y i*dot (2*js.length) (colV (2*js.length) (balM vb bs.length vh) i) v)= -barSum vb y v bs.length:=by
  unfold barSum;rw[<-Qlp];refine Qgr _ (fun i hi=>?_);obtain⟨p,hp⟩:∃p,vb[i]?=some p:=⟨vb[i]'(by have:=hv.lb;omega),gE _⟩;obtain⟨p1,p2,p3⟩:=hb p (mO hp);rw[Qlr hv v hp p1 p2 p3];simp only[List.getD,hp,Option.getD_some];grind
 have e2:sumQ hs.length (fun i=>y (bs.length+i)*dot (2*js.length) (colV (2*js.length) (balM vb bs.length vh) (bs.length+i)) v)=holdSum bs.length vh y v hs.length:=by
  unfold holdSum;refine Qgr _ (fun i hi=>?_);obtain⟨r,hr⟩:∃r,vh[i]?=some r:=⟨vh[i]'(by have:=hv.lh;omega),gE _⟩;rw[Qvx hv v hr (hh r (mO hr))];simp only[List.getD,hr,Option.getD_some]
 rw[e1,e2];grind
theorem Qv1(hp:FrP P b vb)(hv:FrV n js bs hs vb vh){La Sa Lb Sb:List Vec}{ha hb:List Nat}(h1:MJ (bs.length+hs.length) 20 K1 (balRows js.length vb bs.length vh) (bs.length+hs.length) La Sa ha)(h2:MJ (2*js.length) 20 (kC b) (balCols js.length vb bs.length vh hs.length) (2*js.length) Lb Sb hb):(freeTo hb (2*js.length)).length+Sa.length=2*js.length:=by
 obtain⟨_,_,hen⟩:=hp.cols hv;rw[ranks h1 h2];exact(hen Lb Sb hb h2).1.1.free
end
theorem Qlt{m:Nat}{hs:List H3}{i:Nat}{h:H3}(k:holdAt m hs i h=0):h.w=1∨h.w=2:=by
 unfold holdAt holdC at k;by_cases h1:h.w=1
 . exact .inl h1
 .
  by_cases h2:h.w=2
  . exact .inr h2
  .
   split at k
   . rw[if_pos ⟨h1,h2⟩] at k
     cases k
   . cases k
end Go.Proofs.YtjgofdclmcpopaaGreatDoor
