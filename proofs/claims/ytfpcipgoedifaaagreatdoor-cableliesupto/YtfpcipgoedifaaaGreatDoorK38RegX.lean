/- A drawn region in which an operation writes into a block that another has made: each operation is shown once, by facts that stay along a relation of worlds. -/
import Derived.Test.YtfpcipgoedifaaaGreatDoorK37RatL
import Derived.BigRegion
namespace Go.Proofs.YtfpcipgoedifaaaGreatDoor
open Go.RowKit
set_option linter.unusedVariables false
set_option linter.unusedSimpArgs false
def cmpQ(p q:Rat):Int:=cmpZ (p.num*(q.den:Int)) (q.num*(p.den:Int))
theorem Qh8(p q:Rat):cmpQ p q<0↔p<q:=by
 rw[Rat.lt_iff];unfold cmpQ cmpZ
 split
 · simp[*]
 · split<;>simp[*]
theorem Qoy(p q:Rat):cmpQ p q=0↔p=q:=by
 rw[<-Qjw];unfold cmpQ cmpZ
 split
 ·
  constructor
  · intro h;omega
  · intro h;omega
 ·
  split
  · simp[*]
  ·
   constructor
   · intro h;omega
   · intro h;omega
def FF(q:Rat)(k:Nat):Fact:=fun v w=>FracV w v q/\Fits q k/\0<k
theorem FF.stays(q:Rat)(k:Nat):Stays (FF q k):=fun _ _ _ hb h=>⟨h.1.below hb,h.2⟩
theorem FF.below{q:Rat}{k:Nat}{v:Value}{w w':World}(h:FF q k v w)(hb:Below w.heap.size w w'):FF q k v w':=FF.stays q k v w w' hb h
def Makes(w:World)(φ:Fact)(e:Ending)(w':World):Prop:=∃v,e=.returned v/\Below w.heap.size w w'/\φ v w'
theorem Makes.use{P:Program}{f:FuncId}{args:Array Value}{w:World}{φ:Fact}{R:Ending->World->Prop}(h:Calls P f args w (Makes w φ))(hR:∀v w',Below w.heap.size w w'->φ v w'->R (.returned v) w'):Calls P f args w R:=
 h.mono fun e w' ⟨v,he,hb,hv⟩=>by subst he;exact hR v w' hb hv
theorem FNew.makes{w w':World}{q:Rat}{k:Nat}{e:Ending}(h:FNew w q e w')(hf:Fits q k)(hk:0<k):Makes w (FF q k) e w':=by
 obtain⟨⟨v,rfl,hv⟩,hb⟩:=h;exact⟨v,rfl,hb,hv,hf,hk⟩
theorem FF.plus{u v:Value}{p q:Rat}{j k:Nat}{w:World}(h1:FF p j u w)(h2:FF q k v w)(hj:j+k<68719476000):Calls Tryz.prog 49 #[u,v] w (Makes w (FF (p+q) (j+k+1))):=
 (Qou h1.1 h2.1 h1.2.1 h2.2.1 hj).mono fun e w' h=>h.makes (h1.2.1.add h2.2.1) (by omega)
theorem FF.minus{u v:Value}{p q:Rat}{j k:Nat}{w:World}(h1:FF p j u w)(h2:FF q k v w)(hj:j+k<68719476000):Calls Tryz.prog 50 #[u,v] w (Makes w (FF (p - q) (j+k+1))):=
 (Qdm h1.1 h2.1 h1.2.1 h2.2.1 hj).mono fun e w' h=>h.makes (h1.2.1.sub h2.2.1) (by omega)
theorem FF.times{u v:Value}{p q:Rat}{j k:Nat}{w:World}(h1:FF p j u w)(h2:FF q k v w)(hj:j+k<68719476000):Calls Tryz.prog 96 #[u,v] w (Makes w (FF (p*q) (j+k))):=
 (Qdl h1.1 h2.1 h1.2.1 h2.2.1 hj).mono fun e w' h=>h.makes (h1.2.1.mul h2.2.1 h1.2.2) (by have:=h1.2.2;omega)
theorem FF.over{u v:Value}{p q:Rat}{j k:Nat}{w:World}(h1:FF p j u w)(h2:FF q k v w)(hj:j+k<68719476000):Calls Tryz.prog 115 #[u,v] w (Makes w (FF (p / q) (j+k))):=
 (Qb4 h1.1 h2.1 h1.2.1 h2.2.1 hj).mono fun e w' h=>h.makes (h1.2.1.div h2.2.1 h1.2.2 h2.2.2) (by have:=h1.2.2;omega)
theorem FF.sign{u:Value}{p:Rat}{j:Nat}{w:World}(h1:FF p j u w):Calls Tryz.prog 77 #[u] w (Makes w (Is (.int .i64 (sgn3 p.num)))):=
 (Qko h1.1).mono fun e w' h=>⟨_,h.1,h.2,rfl⟩
theorem FF.isZero{u:Value}{p:Rat}{j:Nat}{w:World}(h1:FF p j u w):Calls Tryz.prog 79 #[u] w (Makes w (Is (.bool (decide (p=0))))):=
 (Qbn h1.1).mono fun e w' h=>⟨_,h.1,h.2,rfl⟩
theorem FF.of{s:ByteArray}{q:Rat}{n K:Nat}{w:World}(hg:Glob w)(hq:QOf s.data.toList q)(hs:s.size<=n)(hn:n<=1073741824)(hK:4*n+1<=K):Calls Tryz.prog 51 #[.string s] w (Makes w (FF q K)):=by
 refine((FBag.start hg).of s hs hn).mono ?_;rintro e w' ⟨q',hq',x,y,z,rfl,hb⟩;obtain rfl:=hq.inj hq';have:=hb.get List.mem_cons_self;exact⟨_,rfl,hb.base,this.1,this.2.1.mono hK,by omega⟩
theorem FF.zero(w:World):FF 0 1 (.agg #[.bool false,.slice none 0 0,.slice none 0 0]) w:=⟨FracV.zero _,Fits.zero,by decide⟩
theorem FF.mono{q:Rat}{k k':Nat}{v:Value}{w:World}(h:FF q k v w)(hk:k<=k'):FF q k' v w:=⟨h.1,h.2.1.mono hk,Nat.lt_of_lt_of_le h.2.2 hk⟩
theorem FF.parts{q:Rat}{k:Nat}{v:Value}{w:World}(h:FF q k v w):∃x y z,v=.agg #[x,y,z]:=by
 obtain⟨⟨neg,a,n,c,b,m,d,rfl,_⟩,_⟩:=h;exact⟨_,_,_,rfl⟩
def RF(q:Rat)(k:Nat):Fact:=fun v w=>∃b,v=.pointer (some ⟨b,0,none⟩)/\RatVal w b q/\Fits q k/\0<k
theorem RF.stays(q:Rat)(k:Nat):Stays (RF q k):=fun _ _ _ hb ⟨b,e,h,r⟩=>⟨b,e,h.below hb,r⟩
theorem RF.below{q:Rat}{k:Nat}{v:Value}{w w':World}(h:RF q k v w)(hb:Below w.heap.size w w'):RF q k v w':=RF.stays q k v w w' hb h
theorem NewRat.makes{w w':World}{q:Rat}{k:Nat}{e:Ending}(h:NewRat w q e w')(hf:Fits q k)(hk:0<k):Makes w (RF q k) e w':=by
 obtain⟨⟨b,rfl,_,hv⟩,hb⟩:=h;exact⟨_,rfl,hb,b,rfl,hv,hf,hk⟩
theorem RF.add{u v:Value}{p q:Rat}{j k:Nat}{w:World}(h1:RF p j u w)(h2:RF q k v w)(hj:j+k<274877906000):Calls Tryz.prog 17 #[u,v] w (Makes w (RF (p+q) (j+k+1))):=by
 obtain⟨b,rfl,r1,f1,_⟩:=h1;obtain⟨c,rfl,r2,f2,_⟩:=h2;exact(Qsr b c j k p q w r1 r2 f1 f2 hj).mono fun e w' h=>h.makes (f1.add f2) (by omega)
theorem RF.sub{u v:Value}{p q:Rat}{j k:Nat}{w:World}(h1:RF p j u w)(h2:RF q k v w)(hj:j+k<274877906000):Calls Tryz.prog 14 #[u,v] w (Makes w (RF (p - q) (j+k+1))):=by
 obtain⟨b,rfl,r1,f1,_⟩:=h1;obtain⟨c,rfl,r2,f2,_⟩:=h2;exact(Qss b c j k p q w r1 r2 f1 f2 hj).mono fun e w' h=>h.makes (f1.sub f2) (by omega)
theorem RF.mul{u v:Value}{p q:Rat}{j k:Nat}{w:World}(h1:RF p j u w)(h2:RF q k v w)(hj:j+k<274877906000):Calls Tryz.prog 16 #[u,v] w (Makes w (RF (p*q) (j+k))):=by
 obtain⟨b,rfl,r1,f1,hj0⟩:=h1;obtain⟨c,rfl,r2,f2,_⟩:=h2;exact(Qst b c j k p q w r1 r2 f1 f2 hj).mono fun e w' h=>h.makes (f1.mul f2 hj0) (by omega)
theorem RF.of{s:ByteArray}{q:Rat}{K:Nat}{w:World}(hg:Glob w)(hq:QOf s.data.toList q)(hs:s.size<=1073741824)(hf:Fits q K)(hK:0<K):Calls Tryz.prog 10 #[.string s] w (Makes w (RF q K)):=by
 obtain⟨m,hm⟩:=hg.most;refine(Qkf s m w hm hs).mono ?_;rintro e w' ⟨q',hq',hn⟩;obtain rfl:=hq.inj hq';exact hn.makes hf hK
theorem RF.sign{u:Value}{p:Rat}{j:Nat}{w:World}(h:RF p j u w):Calls Tryz.prog 7 #[u] w (Makes w (Is (.int .i64 (sgn3 p.num)))):=by
 obtain⟨b,rfl,r1,f1,_⟩:=h;exact(Qj1 b p w r1).mono fun e w' ⟨he,hw⟩=>⟨_,he,by rw[hw];exact Below.refl _ _,rfl⟩
theorem RF.cmp{u v:Value}{p q:Rat}{j k:Nat}{w:World}(h1:RF p j u w)(h2:RF q k v w)(hj:j+k<274877906000):Calls Tryz.prog 11 #[u,v] w (Makes w (Is (.int .i64 (cmpQ p q)))):=by
 obtain⟨b,rfl,r1,f1,_⟩:=h1;obtain⟨c,rfl,r2,f2,_⟩:=h2;exact(Qjx b c j k p q w r1 r2 f1 f2 hj).mono fun e w' h=>⟨_,h.1,h.2,rfl⟩
end Go.Proofs.YtfpcipgoedifaaaGreatDoor
namespace Go.Proofs.YtfpcipgoedifaaaGreatDoor
namespace Giv
set_option linter.unusedVariables false
variable {W n:Nat} {B:Nat->Nat->Rat} {c e:Nat->Rat}
def frs(fr:Nat->Bool)(W:Nat):List Nat:=(List.range W).filter fr
theorem frs_succ(fr:Nat->Bool)(W:Nat):frs fr (W+1)=if fr W=true then frs fr W++ [W] else frs fr W:=by
 unfold frs;rw[List.range_succ,List.filter_append];cases h:fr W<;>simp[h]
theorem frs_mem{fr:Nat->Bool}{W w:Nat}:w∈ frs fr W↔w<W/\fr w=true:=by
 unfold frs;rw[List.mem_filter,List.mem_range]
theorem frs_len(fr:Nat->Bool)(W:Nat):(frs fr W).length<=W:=by
 unfold frs;exact Nat.le_trans (List.length_filter_le _ _) (by rw[List.length_range];exact Nat.le_refl _)
theorem dot_frs(fr:Nat->Bool)(f g:Vec):∀W,dot W f (fun w=>if fr w=true then g w else 0)=dot (frs fr W).length (fun j=>f ((frs fr W).getD j 0)) (fun j=>g ((frs fr W).getD j 0))
 |0=>rfl
 |W+1=>by
  have h:=dot_frs fr f g W;rw[frs_succ];have e:dot (W+1) f (fun w=>if fr w=true then g w else 0)=dot W f (fun w=>if fr w=true then g w else 0)+f W*(if fr W=true then g W else 0):=rfl;rw[e,h];cases hf:fr W with
  |false=>simp;grind
  |true=>
   simp only[if_true,List.length_append,List.length_cons,List.length_nil,Nat.zero_add];generalize frs fr W=l;have e2:dot (l.length+1) (fun j=>f ((l++ [W]).getD j 0)) (fun j=>g ((l++ [W]).getD j 0))=dot l.length (fun j=>f ((l++ [W]).getD j 0)) (fun j=>g ((l++ [W]).getD j 0))+f ((l++ [W]).getD l.length 0)*g ((l++ [W]).getD l.length 0):=rfl;rw[e2,show (l++ [W]).getD l.length 0=W by simp]
   congr 1
   refine Qae _ _ _ _ _ (fun j hj=>?_);rw[show (l++ [W]).getD j 0=l.getD j 0 by simp[List.getElem?_append_left hj]]
end Giv
open Go.RowKit
set_option linter.unusedVariables false
set_option linter.unusedSimpArgs false
def FB(q:Rat)(k:Nat)(w:World)(g:Nat):Prop:=∃x y z,SB w g 103 #[x,y,z]/\FF q k (.agg #[x,y,z]) w
theorem FB.below{q:Rat}{k:Nat}{w w':World}{g:Nat}(h:FB q k w g)(hb:Below w.heap.size w w'):FB q k w' g:=by
 obtain⟨x,y,z,hs,hf⟩:=h;exact⟨x,y,z,hs.below hb hs.lt,hf.below hb⟩
theorem FB.mono{q:Rat}{k j:Nat}{w:World}{g:Nat}(h:FB q k w g)(hj:k<=j):FB q j w g:=by
 obtain⟨x,y,z,hs,hf⟩:=h;exact⟨x,y,z,hs,hf.mono hj⟩
theorem FB.set{q p:Rat}{k j:Nat}{w:World}{g:Nat}{x y z:Value}(h:FB q k w g)(hf:FF p j (.agg #[x,y,z]) w):FB p j (((w.setCell ⟨g,0,none⟩ x).setCell ⟨g,1,none⟩ y).setCell ⟨g,2,none⟩ z) g:=by
 obtain⟨x0,y0,z0,hs,hf0⟩:=h;have hn:NoU64 #[x0,y0,z0]:=fun i n=>by
  have:=hf0.1.no64 n
  match i with
  |0=>simpa using this.1
  |1=>simpa using this.2.1
  |2=>simpa using this.2.2
  |i+3=>simp
 refine⟨x,y,z,?_,?_,hf.2⟩
 · have:=((hs.set 0 x).set 1 y).set 2 z
   simpa using this
 · exact hf.1.only ((((Only.refl g w).setCell 0 _).setCell 1 _).setCell 2 _) hs hn
theorem Qo6{ts ss:List FE}{k:Nat}{e s:FE}(he:ts[k]?=some e)(hs:ss[k]?=some s):dot (k+1) (qAt ts) (qAt ss)=dot k (qAt ts) (qAt ss)+e.q*s.q:=by
 show dot k (qAt ts) (qAt ss)+qAt ts k*qAt ss k=_
 rw[Qa7 he,Qa7 hs]
set_option maxRecDepth 100000 in
set_option maxHeartbeats 4000000 in
theorem Qo7(a a':Option Addr)(cap cap' n m K1 K2:Nat)(ts ss:List FE)(w:World)(h:QRow w a cap ts)(h':QRow w a' cap' ss)(hn:ts.length=n)(hm:ss.length=m)(hnm:n<=m)(hn1:m<=1000)(k1:∀t,t∈ ts->t.k<=K1)(k2:∀t,t∈ ss->t.k<=K2)(hK:n*(K1+K2+1)+1<68719476000):
 Calls Tryz.prog 53 #[.slice a n cap,.slice a' m cap'] w (Makes w (FF (dot n (qAt ts) (qAt ss)) (n*(K1+K2+1)+1))):=by
 have HH:=Hi h;have HG:=Hi h';have HN:=Hi (And.intro hn hm);have HK1:=Hi k1;have HK2:=Hi k2;have HK:=Hi hK;clear h h' hn hm k1 k2 hK;go_enter Tryz.func53,Tryz.ntmps53;go_wp2_with fail;obtain⟨W,hW⟩:=nm ((w.alloc (.cells #[.bool false,.slice none 0 0,.slice none 0 0] 103)).alloc (.cells #[.bool false,.slice none 0 0,.slice none 0 0] 103));have HB0:Hid (Below w.heap.size w W):=Hi (by rw[<-hW];exact Below.new2 w _ _);have HR0:Hid (SB W w.heap.size 103 #[.bool false,.slice none 0 0,.slice none 0 0]):=Hi (by rw[<-hW];exact(SB.new w _ _).alloc _);have HS0:Hid (FB 0 1 W (w.heap.size+1)):=Hi ⟨_,_,_,by rw[<-hW];exact SB.new2 w _ _ _ _,FF.zero _⟩;obtain⟨G,hG⟩:=nm (w.heap.size+1);rw[hG] at HS0;have HGE:Hid (w.heap.size<G):=Hi (by omega);have HWE:=Hi hW;have HGG:=Hi hG;clear hW hG
 try rw[HWE.out]
 try simp only[HGG.out]
 go_loopw [9] (fun iv wr=>∃k:Nat,k<=n/\iv=.int .i64 k/\FB (dot k (qAt ts) (qAt ss)) (k*(K1+K2+1)+1) wr G/\SB wr w.heap.size 103 #[.bool false,.slice none 0 0,.slice none 0 0]/\Below w.heap.size w wr) (fun iv _=>n - (intOf iv).toNat)
 case atStart=>exact⟨0,by omega,rfl,by simpa [dot] using HS0.out,HR0.out,HB0.out⟩
 case round=>
  obtain⟨k,hk,rfl,hfb,hr,hb⟩:=hrel;have HB:=Hi hb;have HFB:=Hi hfb;have HR:=Hi hr;clear hb hfb hr;by_cases hlt:k<n
  ·
   obtain⟨e,he⟩:∃e,ts[k]?=some e:=⟨ts[k]'(by have:=HN.out;omega),gE (by have:=HN.out;omega)⟩;obtain⟨s,hs⟩:∃s,ss[k]?=some s:=⟨ss[k]'(by have:=HN.out;omega),gE (by have:=HN.out;omega)⟩;obtain⟨fb,off,rfl,hfw,D0,D1,D2⟩:=HH.out.at he;obtain⟨sb,soff,rfl,hsw,E0,E1,E2⟩:=HG.out.at hs;have HX:Hid (FF e.q K1 (.agg #[e.x,e.y,e.z]) w):=Hi (FF.mono (HH.out.get he) (HK1.out e (mO he)));have HY:Hid (FF s.q K2 (.agg #[s.x,s.y,s.z]) w):=Hi (FF.mono (HG.out.get hs) (HK2.out s (mO hs)));have HDT:=Hi (Qo6 he hs);have HD0:=Hi D0;have HD1:=Hi D1;have HD2:=Hi D2;have HE0:=Hi E0;have HE1:=Hi E1;have HE2:=Hi E2;have d0:=ce HB.out hfw D0;have d1:=ce HB.out hfw D1;have d2:=ce HB.out hfw D2;have q1:((k:Int)<(n:Int)):=by omega
   have q2:((k:Int)<(m:Int)):=by omega
   clear he hs D0 D1 D2 E0 E1 E2;go_wp2_with fail;refine Makes.use ((HX.out.below HB.out).isZero) ?_;intro v4 w4 hb hv;obtain rfl:v4=.bool (decide (e.q=0)):=hv;have HB4:=Hi (HB.out.trans (hb.mono HB.out.size));have HFB4:=Hi (HFB.out.below hb);have HR4:=Hi (HR.out.below hb HR.out.lt);clear hb d0 d1 d2 HFB HR;by_cases h0:e.q=0
   ·
    rw[decide_eq_true h0];have HE:Hid (dot (k+1) (qAt ts) (qAt ss)=dot k (qAt ts) (qAt ss)):=Hi (by rw[HDT.out,h0];grind);clear h0;go_wp2;go_roundw
    case rel=>exact⟨k+1,by omega,by go_num,by rw[HE.out];exact HFB4.out.mono (by rw[Nat.succ_mul];omega),HR4.out,HB4.out⟩
    case measure=>simp[intOf];omega
   ·
    rw[decide_eq_false h0];have d0:=ce HB4.out hsw HE0.out;have d1:=ce HB4.out hsw HE1.out;have d2:=ce HB4.out hsw HE2.out;clear h0;go_wp2_with fail;refine Makes.use ((HY.out.below HB4.out).isZero) ?_;intro v5 w5 hb hv;obtain rfl:v5=.bool (decide (s.q=0)):=hv;have HB5:=Hi (HB4.out.trans (hb.mono HB4.out.size));have HFB5:=Hi (HFB4.out.below hb);have HR5:=Hi (HR4.out.below hb HR4.out.lt);clear hb d0 d1 d2 HFB4 HR4;by_cases h0:s.q=0
    ·
     rw[decide_eq_true h0];have HE:Hid (dot (k+1) (qAt ts) (qAt ss)=dot k (qAt ts) (qAt ss)):=Hi (by rw[HDT.out,h0];grind);clear h0;go_wp2;go_roundw
     case rel=>exact⟨k+1,by omega,by go_num,by rw[HE.out];exact HFB5.out.mono (by rw[Nat.succ_mul];omega),HR5.out,HB5.out⟩
     case measure=>simp[intOf];omega
    ·
     rw[decide_eq_false h0];clear h0;go_wp2_with fail;obtain⟨x,y,z,hsx,hfx⟩:=HFB5.out;have hdr:Below w5.heap.size w5 w5.drew:=bR.drew;have hsx':=hsx.below hdr hsx.lt;have HX0:=Hi (hsx'.cell 0);have HX1:=Hi (hsx'.cell 1);have HX2:=Hi (hsx'.cell 2);simp only[List.getElem?_toArray,List.getElem?_cons_zero,List.getElem?_cons_succ] at HX0 HX1 HX2;have HSX:=Hi hsx';have HFX:=Hi (hfx.below hdr);have HB6:=Hi (HB5.out.trans (hdr.mono HB5.out.size));have HFB6:=Hi (HFB5.out.below hdr);have HR6:=Hi (HR5.out.below hdr HR5.out.lt);have hk1:k*(K1+K2+1)+1+(K1+K2)<68719476000:=by
      have:=HK.out;have h2:(k+1)*(K1+K2+1)<=n*(K1+K2+1):=Nat.mul_le_mul_right _ (by omega);rw[Nat.succ_mul] at h2;omega
     have HK3:=Hi hk1;have HK4:Hid (K1+K2<68719476000):=Hi (by omega);clear hsx hsx' hfx hdr hk1 HFB5 HR5;refine RegG.bg 11 (fun j=>some (26+j)) ?_;refine RegG.pu (c:=?_) [] (fun w hb=>?_) ?_;rotate_left
     ·
      intro K hK;have d0:=ce hb HSX.out.lt HX0.out;have d1:=ce hb HSX.out.lt HX1.out;have d2:=ce hb HSX.out.lt HX2.out;go_simp;exact hK
     refine RegG.p0 [] ?_;refine RegG.p0 [] ?_;refine RegG.p0 [1,2] ?_;refine RegG.pu (c:=?_) [3] (fun w hb=>?_) ?_;rotate_left
     ·
      intro K hK;have hz:=HB6.out.trans (hb.mono HB6.out.size);have d0:=ce hz hfw HD0.out;have d1:=ce hz hfw HD1.out;have d2:=ce hz hfw HD2.out;go_simp;exact hK
     refine RegG.p0 [] ?_;refine RegG.p0 [] ?_;refine RegG.p0 [5,6] ?_;refine RegG.pu (c:=?_) [7] (fun w hb=>?_) ?_;rotate_left
     ·
      intro K hK;have hz:=HB6.out.trans (hb.mono HB6.out.size);have d0:=ce hz hsw HE0.out;have d1:=ce hz hsw HE1.out;have d2:=ce hz hsw HE2.out;go_simp;exact hK
     refine RegG.ca (φ:=FF (e.q*s.q) (K1+K2)) [4,8] (FF.stays _ _) (fun w hb=>?_) ?_
     ·
      skip;intro K hK;go_simp;exact Makes.use ((HX.out.below (HB6.out.trans (hb.mono HB6.out.size))).times (HY.out.below (HB6.out.trans (hb.mono HB6.out.size))) HK4.out) hK
     refine RegG.ca (φ:=FF (dot k (qAt ts) (qAt ss)+e.q*s.q) (k*(K1+K2+1)+1+(K1+K2)+1)) [0,9] (FF.stays _ _) (fun w hb=>?_) ?_
     ·
      intro v9 h9;intro K hK;go_simp;exact Makes.use ((HFX.out.below hb).plus h9 HK3.out) hK
     refine RegG.last (by simp only[List.nil_append,List.cons_append,List.length_append,List.length_cons,List.length_nil,Nat.reduceAdd]) (by rfl) (by rfl) (by kernel_rfl) (fun x2 hb=>?_);simp only[FinG,List.nil_append,List.cons_append,Qaf,Act.put,List.setIfInBounds_toArray,List.set_cons_zero,List.set_cons_succ,Nat.reduceAdd,Nat.reduceBEq,cond_true,cond_false];intro v9 _ v10 h10 K hK;obtain⟨x',y',z',rfl⟩:=h10.parts;obtain⟨o1,o2,o3⟩:=h10.1.one;have st0:=Qaa Tryz.prog o1;have st1:=Qaa Tryz.prog o2;have st2:=Qaa Tryz.prog o3;have hs6:=HSX.out.below hb HSX.out.lt;have f0:=hs6.free 0;have f1:=hs6.free 1;have f2:=hs6.free 2;have c0:=hs6.cell 0;have c1:=hs6.cell 1;have c2:=hs6.cell 2;simp only[List.getElem?_toArray,List.getElem?_cons_zero,List.getElem?_cons_succ] at c0 c1 c2;have HF10:=Hi h10;have HFB7:=Hi ((HFB6.out.below hb).set h10);have HR7:=Hi (HR6.out.below hb HR6.out.lt)
     have HB7:=Hi (HB6.out.trans (hb.mono HB6.out.size));clear o1 o2 o3 hs6 h10 hb;go_simp;refine hK _ _ ?_;clear hK c0 c1 c2 f0 f1 f2 st0 st1 st2;go_wp2;go_roundw
     case rel=>
      have ho:=((((Only.refl G x2).setCell 0 x').setCell 1 y').setCell 2 z');exact⟨k+1,by omega,by go_num,by rw[HDT.out,show (k+1)*(K1+K2+1)+1=k*(K1+K2+1)+1+(K1+K2)+1 by rw[Nat.succ_mul];omega];exact HFB7.out,HR7.out.only ho (by have:=HGE.out;omega),Only.fresh HB7.out ho (Nat.le_of_lt HGE.out)⟩
     case measure=>simp[intOf];omega
  ·
   obtain rfl:k=n:=by omega
   obtain⟨x,y,z,hsx,hfx⟩:=HFB.out;have c0:=hsx.cell 0;have c1:=hsx.cell 1;have c2:=hsx.cell 2;have r0:=HR.out.cell 0;have r1:=HR.out.cell 1;have r2:=HR.out.cell 2;have f0:=HR.out.free 0;have f1:=HR.out.free 1;have f2:=HR.out.free 2;simp only[List.getElem?_toArray,List.getElem?_cons_zero,List.getElem?_cons_succ] at c0 c1 c2 r0 r1 r2;obtain⟨o1,o2,o3⟩:=hfx.1.one;have st0:=Qaa Tryz.prog o1;have st1:=Qaa Tryz.prog o2;have st2:=Qaa Tryz.prog o3;have HFX:=Hi hfx;clear hsx hfx o1 o2 o3;go_wp2;have ho:=((((Only.refl w.heap.size wr).setCell 0 x).setCell 1 y).setCell 2 z);refine bodyPost_ret (v:=.agg #[x,y,z]) (results_cell_row rfl _ _ w.heap.size 103 #[x,y,z] (0,0) _ rfl (((HR.out.set 0 x).set 1 y).set 2 z) Tryz.underlying103 rfl Tryz.fracInfo) rfl ?_;refine⟨_,rfl,Only.fresh HB.out ho lZ,HFX.out.1.only ho HR.out ?_,HFX.out.2⟩;intro i n
   match i with
   |0=>simp
   |1=>simp
   |2=>simp
   |i+3=>simp
theorem Qo8:(Tryz.prog.info? 4).map (fun i=>(i.zero,i.size,i.bytes))=some (some (.bool false),1,1):=by kernel_rfl
theorem Qo9:(Tryz.prog.info? 3).map (fun i=>(i.zero,i.size,i.bytes))=some (some (.int .i64 0),1,8):=by kernel_rfl
def boolsV(l:List Bool):List Value:=l.map Value.bool
theorem Qpa(n:Nat):madeCells #[Value.bool false] n=(boolsV (List.replicate n false)).toArray:=by
 unfold madeCells boolsV;apply Array.ext
 · simp
 · intro i h1 h2
   simp[Nat.mod_one]
theorem Qib(n:Nat)(hn:n<=1000)(w:World):
 (Instr.makeSlice 72 (.int .i64 n) (.int .i64 n)).run Tryz.prog w=.ok (.slice (some ⟨w.heap.size,0,none⟩) n n) (w.alloc (.cells (boolsV (List.replicate n false)).toArray 4)):=by
 rw[<-Qpa];exact Go.run_make_row' 72 4 (.bool false) 1 Tryz.underlying72 Qo8 rfl .i64 .i64 n (by omega) (by omega) w
theorem SB.boolAt{w:World}{g:Nat}{t:TypeId}{l:List Bool}(h:SB w g t (boolsV l).toArray)(i:Nat):w.cell? ⟨g,i,none⟩=(l[i]?).map Value.bool:=by
 rw[h.cell];simp[boolsV]
abbrev IG(w:World)(B:Nat)(v:Value)(l:List Nat):Prop:=Grow w B 3 1 IsI v l.length (l.map (fun n:Nat=>Value.int .i64 n))
theorem IG.app{w:World}{B nb c:Nat}{v:Value}{l:List Nat}{x:Nat}(h:IG w B v l)(hc:w.cell? ⟨nb,0,none⟩=some (.int .i64 x))(hn:l.length<=1000)(hB:B<=w.heap.size)(ty:TypeId):
 ∃v' w',appR Tryz.prog 106 ty v (.slice (some ⟨nb,0,none⟩) 1 c) w=.ok v' w'/\IG w' B v' (l++ [x])/\Below B w w'/\w.grownBy w' v.ownBlock:=by
 obtain⟨i,hi,hz⟩:=Option.map_eq_some_iff.1 Qo9;injection hz with z1 z2
 injection z2 with z2 z3
 obtain⟨v',w',h1,h2,h3,_⟩:=Grow.app h (P:=Tryz.prog) (t:=106) (ty:=ty) Tryz.underlying106 hi z1 z2 z3 rfl (by decide) (fun u hu=>⟨_,by simpa [Value.cells] using hu⟩) ⟨nb,0,none⟩ 1 c [.int .i64 x] rfl (fun j u hj=>by
  match j,hj with
  |0,hj=>
   obtain rfl:=Option.some.inj hj
   exact hc) (fun u hu=>by obtain rfl:=List.mem_singleton.1 hu;rfl) (fun u hu=>by obtain rfl:=List.mem_singleton.1 hu;exact⟨_,rfl⟩) (by omega) (by decide) hB
 refine⟨v',w',h1,?_,Qk1 h3 (fun g hg=>(h.lt hg).1) hB,h3⟩
 show Grow _ _ _ _ _ _ (l++ [x]).length ((l++ [x]).map _)
 rw[List.length_append,List.length_singleton,List.map_append];exact h2
theorem IG.slice{w:World}{B:Nat}{v:Value}{l:List Nat}(h:IG w B v l):∃a cap,v=.slice a l.length cap/\CRow w a (l.map (fun n:Nat=>Value.int .i64 n)):=by
 obtain⟨a,cap,e,_,hr,_⟩:=Grow.slice h;exact⟨a,cap,e,hr⟩
theorem Qic{w w':World}{b:Nat}{t:TypeId}{C:Array Value}{row:Option Nat}(h:SB w b t C)(hg:w.grownBy w' row)(hne:some b≠row):SB w' b t C:=by
 have hl:=h.lt;unfold SB at h ⊢;rw[hg.block b hl hne];exact h
structure RB (w:World) (g n K:Nat) (x:Vec) (us:List FE):Prop where
 blk:QBlk w g us
 len:us.length=n
 val:∀(i:Nat) (t:FE),us[i]?=some t->t.q=x i/\t.k<=K
theorem RB.below{w w':World}{g n K:Nat}{x:Vec}{us:List FE}(h:RB w g n K x us)(hb:Below w.heap.size w w'):RB w' g n K x us:=⟨h.blk.below hb,h.len,h.val⟩
theorem RB.new(w:World)(n K:Nat)(C:Array Value)(hC:C=((List.replicate n FE.zero).flatMap FE.cells).toArray)(hK:0<K):RB (w.alloc (.cells C 103)) w.heap.size n K (fun _=>0) (List.replicate n FE.zero):=
 ⟨QBlk.new w n C hC,List.length_replicate,fun i t ht=>by
   rw[List.getElem?_replicate] at ht
   split at ht
   · cases ht
     exact⟨rfl,hK⟩
   · cases ht⟩
theorem RB.set{w:World}{g n K k:Nat}{x:Vec}{us:List FE}{a b c:Value}{q:Rat}(h:RB w g n K x us)(hk:k<n)(hf:FF q K (.agg #[a,b,c]) w)(y:Vec)(hy:∀i,y i=if i=k then q else x i):
 RB (((w.setCell ⟨g,k*3,none⟩ a).setCell ⟨g,k*3+1,none⟩ b).setCell ⟨g,k*3+2,none⟩ c) g n K y (us.set k ⟨a,b,c,q,K⟩):=by
 refine⟨h.blk.set (e:=⟨a,b,c,q,K⟩) (by rw[h.len];exact hk) hf,by rw[List.length_set,h.len],fun i t ht=>?_⟩;rw[List.getElem?_set] at ht;rw[hy i]
 split at ht
 ·
  rename_i e;subst e
  split at ht
  · cases ht
    exact⟨by rw[if_pos rfl],Nat.le_refl _⟩
  · cases ht
 ·
  rename_i e;rw[if_neg (fun h=>e h.symm)];exact h.val i t ht
theorem RB.at{w:World}{g n K k:Nat}{x:Vec}{us:List FE}(h:RB w g n K x us)(hk:k<n):∃a b c,w.cell? ⟨g,k*3,none⟩=some a/\w.cell? ⟨g,k*3+1,none⟩=some b/\w.cell? ⟨g,k*3+2,none⟩=some c/\FF (x k) K (.agg #[a,b,c]) w:=by
 obtain⟨t,ht⟩:∃t,us[k]?=some t:=⟨us[k]'(by have:=h.len;omega),gE (by have:=h.len;omega)⟩;obtain⟨b,o,e,_,t0,t1,t2⟩:=h.blk.row.at ht;cases e;simp only[Nat.zero_add] at t0 t1 t2;have hv:=h.val k t ht;refine⟨_,_,_,t0,t1,t2,?_⟩;rw[<-hv.1];exact FF.mono (h.blk.row.get ht) hv.2
theorem RB.cells{w:World}{g n K k:Nat}{x:Vec}{us:List FE}{t:FE}(h:RB w g n K x us)(ht:us[k]?=some t):w.cell? ⟨g,k*3,none⟩=some t.x/\w.cell? ⟨g,k*3+1,none⟩=some t.y/\w.cell? ⟨g,k*3+2,none⟩=some t.z:=by
 obtain⟨b,o,e,_,t0,t1,t2⟩:=h.blk.row.at ht;cases e;simp only[Nat.zero_add] at t0 t1 t2;exact⟨t0,t1,t2⟩
theorem RB.fe{w:World}{g n K k:Nat}{x:Vec}{us:List FE}{t:FE}(h:RB w g n K x us)(ht:us[k]?=some t):FF (x k) K (.agg #[t.x,t.y,t.z]) w:=by
 have hv:=h.val k t ht;rw[<-hv.1];exact FF.mono (h.blk.row.get ht) hv.2
theorem RB.get{w:World}{g n K k:Nat}{x:Vec}{us:List FE}(h:RB w g n K x us)(hk:k<n):∃t,us[k]?=some t:=⟨us[k]'(by have:=h.len;omega),gE (by have:=h.len;omega)⟩
theorem RB.only{w w':World}{g n K g' n' K':Nat}{x y:Vec}{us vs:List FE}(h:RB w g n K x us)(h':RB w g' n' K' y vs)(ho:Only g' w w')(hne:g≠g'):RB w' g n K x us:=⟨h.blk.other h'.blk ho hne,h.len,h.val⟩
theorem RB.mono{w:World}{g n K K':Nat}{x:Vec}{us:List FE}(h:RB w g n K x us)(hK:K<=K'):RB w g n K' x us:=⟨h.blk,h.len,fun i t ht=>⟨(h.val i t ht).1,Nat.le_trans (h.val i t ht).2 hK⟩⟩
theorem RB.eq{w:World}{g n K:Nat}{x y:Vec}{us:List FE}(h:RB w g n K x us)(e:∀i,i<n->x i=y i):RB w g n K y us:=⟨h.blk,h.len,fun i t ht=>⟨(h.val i t ht).1.trans (e i (by have:=(gZ ht).1;have:=h.len;omega)),(h.val i t ht).2⟩⟩
theorem RB.noInt{w:World}{g n K i:Nat}{x:Vec}{us:List FE}{k:IntKind}{z:Int}(h:RB w g n K x us)(hc:w.cell? ⟨g,i,none⟩=some (.int k z)):False:=by
 rw[h.blk.blk.cell,List.getElem?_toArray] at hc;obtain⟨t,ht,hm⟩:=List.mem_flatMap.1 (mO hc);obtain⟨neg,a,n',c,b,m,d,e,_⟩:=(h.blk.ts t ht).1;simp only[Value.agg.injEq,Array.mk.injEq,List.cons.injEq,and_true] at e;simp only[FE.cells,e.1,e.2.1,e.2.2,List.mem_cons,List.not_mem_nil,or_false] at hm;rcases hm with h|h|h<;>cases h
theorem CRow.ints{w w':World}{a:Option Addr}{l:List Nat}{g n K:Nat}{x:Vec}{us:List FE}(h:CRow w a (l.map (fun n:Nat=>Value.int .i64 n)))(hr:RB w g n K x us)(ho:Only g w w'):CRow w' a (l.map (fun n:Nat=>Value.int .i64 n)):=⟨fun j u hj=>by
 obtain⟨b,off,e,hb,hc⟩:=h.cell j u hj;have hne:b≠g:=fun e=>by
  subst e;rw[List.getElem?_map] at hj;obtain⟨m,_,rfl⟩:=Option.map_eq_some_iff.1 hj;exact hr.noInt hc
 refine⟨b,off,e,Nat.lt_of_lt_of_le hb ho.size,?_⟩;rw[<-hc]
 exact World.cell?_of_block (ho.block b hb hne)⟩
def motTo(at_:List Nat)(y h0:Vec):Nat->Vec
 |0=>h0
 |i+1=>fun r=>if r=at_.getD i 0 then y i else motTo at_ y h0 i r
theorem Qj3{at_:List Nat}{y h0:Vec}{r:Nat}(hr:¬r∈ at_):∀i,i<=at_.length->motTo at_ y h0 i r=h0 r
 |0,_=>rfl
 |i+1,hi=>by
  show (if r=at_.getD i 0 then y i else motTo at_ y h0 i r)=_
  rw[if_neg (fun e=>hr (by
   rw[e,List.getD_eq_getElem?_getD,gE (by omega)]
   exact List.getElem_mem _)),Qj3 hr i (by omega)]
theorem Qj4{at_:List Nat}{y h0:Vec}(hn:at_.Nodup){j:Nat}:∀i,i<=at_.length->j<i->motTo at_ y h0 i (at_.getD j 0)=y j
 |0,_,hj=>by omega
 |i+1,hi,hj=>by
  show (if at_.getD j 0=at_.getD i 0 then y i else motTo at_ y h0 i (at_.getD j 0))=_
  by_cases e:j=i
  · rw[e,if_pos rfl]
  ·
   rw[if_neg (fun h=>e (by
    simp only[List.getD_eq_getElem?_getD,gE (show j<at_.length by omega),gE (show i<at_.length by omega),Option.getD_some] at h
    exact(List.getElem_inj hn).1 h)),Qj4 hn i (by omega) (by omega)]
theorem GM.on{w u u':World}{B G W K:Nat}{gs:List Nat}{M:Nat->Nat->Rat}(h:GM w u B G W K gs M)(hb:Below u.heap.size u u'):GM u' u' B G W K gs M:=by
 have:=h.below hb;exact⟨Below.refl _ _,this.out,this.row,this.nd,this.ne,this.lo,this.los⟩
structure GA (u:World) (B G W K:Nat) (gs:List Nat) (M:Nat->Nat->Rat):Prop where
 gm:GM u u B G W K gs M
 hi:G<u.heap.size
theorem GM.ga{w u:World}{B G W K:Nat}{gs:List Nat}{M:Nat->Nat->Rat}(h:GM w u B G W K gs M):GA u B G W K gs M:=⟨h.on bR,h.out.lt⟩
theorem GA.below{u u':World}{B G W K:Nat}{gs:List Nat}{M:Nat->Nat->Rat}(h:GA u B G W K gs M)(hb:Below u.heap.size u u'):GA u' B G W K gs M:=⟨h.gm.on hb,Nat.lt_of_lt_of_le h.hi hb.size⟩
def partV(at_:List Nat)(n:Nat)(M:Nat->Nat->Rat)(i0 k0:Nat):Nat->Nat->Rat:=fun i k=>if k<n/\(i<i0∨(i=i0/\k<k0)) then M (at_.getD i 0) (at_.getD k 0) else 0
theorem Qd2{w:World}{a:Option Addr}{l:List Nat}{i x:Nat}(h:CRow w a (l.map (fun n:Nat=>Value.int .i64 n)))(hi:l[i]?=some x):∃b off,a=some ⟨b,off,none⟩/\b<w.heap.size/\w.cell? ⟨b,off+i,none⟩=some (.int .i64 x):=h.cell i _ (by rw[List.getElem?_map,hi];rfl)
set_option maxRecDepth 100000 in
set_option maxHeartbeats 4000000 in
theorem Qrl(GI B0 W K n m:Nat)(gi:List Nat)(M:Nat->Nat->Rat)(ai:Option Addr)(ca:Nat)(at_:List Nat)(w:World)(h:GA w B0 GI W K gi M)(hm:gi.length=m)(ha:CRow w ai (at_.map (fun n:Nat=>Value.int .i64 n)))(hn:at_.length=n)(hat:∀r,r∈ at_->r<m/\r<W)(hl:n<=1000)(hK0:0<K):
 Calls Tryz.prog 55 #[.slice (some ⟨GI,0,none⟩) m m,.slice ai n ca] w fun e w'=>∃(G:Nat) (gs:List Nat),e=.returned (.slice (some ⟨G,0,none⟩) n n)/\gs.length=n/\GM w w' w.heap.size G n K gs (partV at_ n M n 0):=by
 have HQ:=Hi h;have HA:=Hi ha;have HAT:=Hi hat;have HBL:=Hi (Qgh n n w hl hl);have HN:=Hi hn;have HM:=Hi hm;clear h hn ha hat hm;go_enter Tryz.func55,Tryz.ntmps55;go_wp2_with fail;go_fit HBL.out;rintro e v ⟨⟨G,gs,rfl,hgl,hGlo,hout,hrow,hnd⟩,hb⟩;have HGM:Hid (GM w v w.heap.size G n K gs (partV at_ n M 0 0)):=Hi (by
  refine⟨hb,hout,fun r g hr=>⟨_,(hrow r g hr).1,by simp,fun c t ht=>?_⟩,hnd,fun r g hr=>by have:=(hrow r g hr).2;omega,hGlo,fun r g hr=>by have:=(hrow r g hr).2;omega⟩;obtain⟨_,rfl⟩:=List.mem_replicate.1 (mO ht)
  exact⟨by simp[partV,FE.zero],by simp[FE.zero];omega⟩)
 have HGL:=Hi hgl;clear hgl hGlo hout hrow hnd hb HBL;go_wp2_with fail;go_loopw [17] (fun iv wr=>∃k:Nat,k<=n/\iv=.int .i64 k/\GM w wr w.heap.size G n K gs (partV at_ n M k 0)) (fun iv _=>n - (intOf iv).toNat)
 case atStart=>exact⟨0,Nat.zero_le _,rfl,HGM.out⟩
 case round=>
  obtain⟨k,hk,rfl,hgm⟩:=hrel;have HG:=Hi hgm;clear hgm;by_cases hkn:k<n
  ·
   obtain⟨ra,hr⟩:∃r,at_[k]?=some r:=⟨at_[k]'(by have:=HN.out;omega),gE _⟩;obtain⟨ab,ao,rfl,hab,d0⟩:=Qd2 (HA.out.below HG.out.base) hr;have q1:((k:Int)<(n:Int)):=by omega
   have HR:=Hi hr;have HRA:=Hi (HAT.out ra (mO hr));clear hr;go_wp2_with fail;clear d0 hab;go_loopw [24] (fun jv wi=>∃j:Nat,j<=n/\jv=.int .i64 j/\GM w wi w.heap.size G n K gs (partV at_ n M k j)) (fun jv _=>n - (intOf jv).toNat)
   case atStart=>exact⟨0,Nat.zero_le _,rfl,HG.out⟩
   case round=>
    obtain⟨j,hj,rfl,hgm⟩:=hrel;have HJ:=Hi hgm;clear hgm;by_cases hjW:j<n
    ·
     obtain⟨g,hg⟩:∃g,gs[k]?=some g:=⟨gs[k]'(by have:=HGL.out;omega),gE _⟩;obtain⟨cb,hc⟩:∃r,at_[j]?=some r:=⟨at_[j]'(by have:=HN.out;omega),gE _⟩;obtain⟨ab',ao',hae,hab,t0⟩:=Qd2 (HA.out.below HJ.out.base) hc;cases hae;have hcb:=HAT.out cb (mO hc);obtain⟨gr,hgr⟩:∃r,gi[ra]?=some r:=⟨gi[ra]'(by have:=HM.out;have:=HRA.out;omega),gE _⟩;have r0:=(HQ.out.below HJ.out.base).gm.cell hgr;obtain⟨us,hqb,hul,huv⟩:=(HQ.out.below HJ.out.base).gm.row ra gr hgr;obtain⟨e,he⟩:∃e,us[cb]?=some e:=⟨us[cb]'(by omega),gE _⟩;obtain⟨rb,ro,hra,hrb,d0,d1,d2⟩:=hqb.row.at he;cases hra;simp only[Nat.zero_add] at d0 d1 d2;have hev:=hqb.row.get he;have hek:=huv cb e he;have s0:=HJ.out.cell hg;obtain⟨x,y,z,c0,c1,c2,f0,f1,f2⟩:=HJ.out.at hg hjW
     have HPT:Hid (GM w (set3 wr g j e.x e.y e.z) w.heap.size G n K gs (partV at_ n M k (j+1))):=Hi (by
      refine(HJ.out.put lZ hg hjW hev.1 (hev.2.1.mono hek.2) hK0).congr (fun c i=>?_);simp only[updM,partV];by_cases h1:c=k/\i=j
      ·
       obtain⟨rfl,rfl⟩:=h1;rw[if_pos ⟨rfl,rfl⟩,if_pos ⟨hjW,.inr ⟨rfl,by omega⟩⟩,hek.1];simp only[List.getD_eq_getElem?_getD,HR.out,hc,Option.getD_some]
      ·
       rw[if_neg h1];by_cases h2:i<n/\(c<k∨(c=k/\i<j))
       · rw[if_pos h2,if_pos (by omega)]
       · rw[if_neg h2,if_neg (by omega)])
     obtain⟨o1,o2,o3⟩:=hev.1.one;have st0:=Qaa Tryz.prog o1;have st1:=Qaa Tryz.prog o2;have st2:=Qaa Tryz.prog o3;have q2:((j:Int)<(n:Int)):=by omega
     have q3:((cb:Int)<(W:Int)):=by omega
     have q4:((ra:Int)<(m:Int)):=by have:=HRA.out;omega
     clear hqb hul huv he hev hek o1 o2 o3 hc hcb hgr;go_wp2_with fail;go_region;go_wp2;go_roundw
     case rel=>exact⟨j+1,by omega,by go_num,HPT.out.below bR.drew⟩
     case measure=>simp[intOf];omega
    ·
     obtain rfl:j=n:=by omega
     have HE:Hid (GM w wr w.heap.size G j K gs (partV at_ j M (k+1) 0)):=Hi (by
      refine HJ.out.congr (fun c i=>?_);simp only[partV];by_cases h2:i<j/\(c<k∨(c=k/\i<j))
      · rw[if_pos h2,if_pos (by omega)]
      · rw[if_neg h2,if_neg (by omega)])
     go_wp2;go_roundw
     case rel=>exact⟨k+1,by omega,by go_num,HE.out⟩
     case measure=>simp[intOf];omega
  ·
   obtain rfl:k=n:=by omega
   go_wp2;go_ret;exact⟨G,gs,rfl,HGL.out,HG.out⟩
end Go.Proofs.YtfpcipgoedifaaaGreatDoor
namespace Go.Proofs.YtfpcipgoedifaaaGreatDoor
set_option linter.unusedVariables false
set_option linter.unusedSimpArgs false
theorem Going.ends{K:Nat}{I:Nat->List Vec->List Vec->List Nat->Prop}(h:Going K I){M:List Vec}(h0:I 0 M [] []):∀W,∃L S hs,I W L S hs
 |0=>⟨M,[],[],h0⟩
 |W+1=>by
  obtain⟨L,S,hs,hi⟩:=h.ends h0 W;by_cases hz:∀r,r∈ L->r W=0
  · exact⟨L,S,hs,h.skip hi hz⟩
  ·
   have:∃r,r∈ L/\r W≠0:=bC fun k=>hz fun r hr=>bC fun k'=>k ⟨r,hr,k'⟩
   obtain⟨r,hr,hne⟩:=this;obtain⟨j,hj⟩:=List.getElem?_of_mem hr;exact⟨_,_,_,h.step hi hj hne⟩
theorem Qrj{K KF n:Nat}{I:Nat->List Vec->List Vec->List Nat->Prop}{M:List Vec}{s:List Rat}{x:Vec}(hg:Going K I)(h0:I 0 (List.zipWith (wider n) M s) [] [])(hfin:∀L S hs,I (n+1) L S hs->(Ech 0 (n+1) S hs/\∀x,Null (n+1) (List.zipWith (wider n) M s) x↔Null (n+1) S x)/\∀v,v∈ cln S hs->∀i,Fits (v i) KF)(hx:Sol n M s x)(hu:∀y,Sol n M s y->∀i,i<n->y i=x i):∀i,i<n->Fits (x i) KF:=fun i hi=>by
 obtain⟨L,S,hs,hI⟩:=hg.ends h0 (n+1);obtain⟨⟨e1,e2⟩,e3⟩:=hfin L S hs hI;have hw:n ∉ hs:=fun hw=>Qiv e1 e2 hw x hx
 have hl:¬hs.length<n:=fun hl=>by
  obtain⟨y,z,hy,hz,c,hc,hne⟩:=Qiw e1 e2 hw hl;exact hne ((hu y hy c hc).trans (hu z hz c hc).symm)
 obtain⟨f1,f2,f3⟩:=Qix e1 e2 hw hl;have hlen:(cln S hs).length=n:=by rw[Qdu S hs e1.len,e1.len,f1]
 have hr:(cln S hs)[i]?=some ((cln S hs)[i]'(by omega)):=gE _;rw[(f3 x).1 hx i _ hr];exact e3 _ (List.getElem_mem _) n
end Go.Proofs.YtfpcipgoedifaaaGreatDoor
namespace Go.Proofs.YtfpcipgoedifaaaGreatDoor
open Go Go.RowKit
set_option linter.unusedVariables false
theorem FinG.monoX{ds:Nat→Option Tmp}{N M:Act→Prop}{w:World}(h:∀a,N a→M a):∀(Φ:List Fact) (k:Nat) (a:Act),FinG ds N w Φ k a→FinG ds M w Φ k a
 | [],_,a,hn=>h a hn
 |_ :: Φ,k,a,hn=>fun v hv=>FinG.monoX h Φ (k+1) _ (hn v hv)
def OneOX(P:Program)(ops:Array Oper)(Q:Exit→Act→World→Prop)(o:Oper)(N:Act→World→Prop)(a:Act)(w:World):Prop:=
 ∀K:Act→World→Prop,Shut (∀a' w',N a' w'→K a' w')→if Region.wanted o (yielded ops a.tmps)=true then Oper.wp P o a w K Q else K (a.put o.dst undef) w
section
variable {P:Program} {ops:Array Oper} {Q:Exit→Act→World→Prop} {R:World→World→Prop}
theorem RegX.pu(hR:RelOK R){m n:Nat}{a0:Act}{w0:World}{ds:Nat→Option Tmp}{Φ:List Fact}{i:Nat}{o:Oper}{c:Value}{N:World→Prop}(js:List Nat)(h:∀w,R w0 w→N w)(hr:RegX R P ops Q m n a0 w0 ds (Φ++ [Is c]))
 (hi:Φ.length=i:=by simp only[List.nil_append,List.cons_append,List.length_append,List.length_cons,List.length_nil,Nat.reduceAdd];exact rfl)
 (ho:ops[i]?=some o:=by simp only[List.getElem?_toArray,List.getElem?_cons_zero,List.getElem?_cons_succ];exact rfl)
 (hj:JsOK ops i js=true:=by kernel_rfl)
 (e:∀w,Given ds Φ w (fun b=>∀K:Value→World→Prop,Shut (K c w)→if Region.wanted o (yielded ops b.tmps)=true then Oper.wp P o b w (fun a' w'=>a'.defers=b.defers∧K (left o.dst a') w') Nope else K undef w) js a0=N w:=by intro w;simp only[Given,List.nil_append,List.cons_append,List.getD_cons_zero,List.getD_cons_succ,Qaf,Act.put,List.setIfInBounds_toArray,List.set_cons_zero,List.set_cons_succ,Nat.reduceAdd,Nat.reduceBEq,cond_true,cond_false];exact rfl):RegX R P ops Q m n a0 w0 ds Φ:=
 RegX.is hR js hi ho hj (fun w hb=>by rw[e w];exact h w hb) hr
theorem RegX.ca{m n:Nat}{a0:Act}{w0:World}{ds:Nat→Option Tmp}{Φ:List Fact}{i:Nat}{o:Oper}{φ:Fact}{N:World→Prop}(js:List Nat)(hs:StaysX R φ)(h:∀w,R w0 w→N w)(hr:RegX R P ops Q m n a0 w0 ds (Φ++ [φ]))
 (hi:Φ.length=i:=by simp only[List.nil_append,List.cons_append,List.length_append,List.length_cons,List.length_nil,Nat.reduceAdd];exact rfl)
 (ho:ops[i]?=some o:=by simp only[List.getElem?_toArray,List.getElem?_cons_zero,List.getElem?_cons_succ];exact rfl)
 (hj:JsOK ops i js=true:=by kernel_rfl)
 (e:∀w,Given ds Φ w (fun b=>∀K:Value→World→Prop,Shut (∀v w',R w w'→φ v w'→K v w')→if Region.wanted o (yielded ops b.tmps)=true then Oper.wp P o b w (fun a' w'=>a'.defers=b.defers∧K (left o.dst a') w') Nope else K undef w) js a0=N w:=by intro w;simp only[Given,List.nil_append,List.cons_append,List.getD_cons_zero,List.getD_cons_succ,Qaf,Act.put,List.setIfInBounds_toArray,List.set_cons_zero,List.set_cons_succ,Nat.reduceAdd,Nat.reduceBEq,cond_true,cond_false];exact rfl):RegX R P ops Q m n a0 w0 ds Φ:=
 RegX.step js hi ho hj hs (fun w hb=>by rw[e w];exact h w hb) hr
theorem RegX.bg{id n:Nat}{a0:Act}{w:World}(R:World→World→Prop)(m:Nat)(ds:Nat→Option Tmp)(h:RegX R P ops Q m n a0 w.drew ds [])
 (hm:P.follows .mixedOrders=true:=by kernel_rfl) (hds:DstsOK ops m ds=true:=by kernel_rfl) (hok:RegOK ops n=true:=by kernel_rfl) (hn:a0.tmps.size=n:=by rfl):(Code.region id ops true).wp P Q a0 w:=RegX.begin m ds hm hds hok hn h
end
end Go.Proofs.YtfpcipgoedifaaaGreatDoor
