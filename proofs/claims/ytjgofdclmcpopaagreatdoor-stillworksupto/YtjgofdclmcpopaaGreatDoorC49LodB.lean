import Derived.Test.YtjgofdclmcpopaaGreatDoorC48LodA
namespace Go.Proofs.YtjgofdclmcpopaaGreatDoor
open Go.RowKit
open Go.Proofs.Tryz
set_option linter.unusedSimpArgs false
set_option linter.unusedVariables false
set_option maxHeartbeats 8000000
set_option maxRecDepth 1000000
abbrev kL(k:Nat):Nat:=k*4194306+1
theorem Qoz(m:Nat):kL (m+1)=kL m+4194306:=by
 show (m+1)*4194306+1=m*4194306+1+4194306
 omega
def LoadsSays(nj en:Nat)(ls:List L3)(vs:List (Nat × Rat × Rat))(w:World)(e:Ending)(w':World):Prop:=
 Below w.heap.size w w'/\∃c at_:Int,LoadsFault nj en ls c at_/\((c≠0/\e=.returned (.tuple #[.slice none 0 0,.agg #[.int .i64 c,.int .i64 at_]]))∨
  (c=0/\∃(g N:Nat) (ts:List RT),N=2*nj/\e=.returned (.tuple #[.slice (some ⟨g,0,none⟩) N N,.agg #[.int .i64 0,.int .i64 0]])/\PBlk w' g ts/\ts.length=N/\∀(i:Nat) (t:RT),ts[i]?=some t->t.2.1= -agn vs i/\t.2.2<=kL 20))
structure LSum (w:World) (g N k:Nat) (vs:List (Nat × Rat × Rat)) (ts:List RT):Prop where
 blk:PBlk w g ts
 len:ts.length=N
 q:∀(i:Nat) (t:RT),ts[i]?=some t->t.2.1= -agn (vs.take k) i/\t.2.2<=kL k
theorem LSum.start{w:World}{g N:Nat}{vs:List (Nat × Rat × Rat)}{ts:List RT}(h:Noughts w g N N ts):LSum w g N 0 vs ts:=by
 refine⟨⟨?_,h.vs⟩,h.len,fun i t ht=>?_⟩
 .
  have:=h.blk;rw[Nat.sub_self] at this
  simpa using this
 .
  obtain⟨h1,h2⟩:=h.zero t (mO ht);rw[h1,h2];exact⟨by simp[agn],by simp[kL]⟩
theorem LSum.step{w:World}{g N k b1 b2:Nat}{vs:List (Nat × Rat × Rat)}{ts:List RT}{p:Nat × Rat × Rat}{t u:RT}(h:LSum w g N k vs ts)(hp:vs[k]?=some p)(hx:ts[2*p.1]?=some t)(hy:ts[2*p.1+1]?=some u){w1 w2:World}
 (hb1:Below w.heap.size w w1) (v1:RatVal w1 b1 (t.2.1+p.2.1)) (f1:Fits (t.2.1+p.2.1) (kL (k+1)))
 (hb2:Below w1.heap.size (w1.setCell ⟨g,2*p.1,none⟩ (.pointer (some ⟨b1,0,none⟩))) w2) (v2:RatVal w2 b2 (u.2.1+p.2.2)) (f2:Fits (u.2.1+p.2.2) (kL (k+1))):
 LSum (w2.setCell ⟨g,2*p.1+1,none⟩ (.pointer (some ⟨b2,0,none⟩))) g N (k+1) vs ((ts.set (2*p.1) (b1,t.2.1+p.2.1,kL (k+1))).set (2*p.1+1) (b2,u.2.1+p.2.2,kL (k+1))):=by
 have h1:=((h.blk.below hb1).set (i:=2*p.1) v1 f1 (by simp[kL]));have h2:=h1.below (by
  have e:(w1.setCell ⟨g,2*p.1,none⟩ (.pointer (some ⟨b1,0,none⟩))).heap.size=w1.heap.size:=by simp[World.setCell]
  rw[e]
  exact hb2)
 have hXl:=(gZ hx).1;have hYl:=(gZ hy).1;refine⟨h2.set v2 f2 (by simp[kL]),by simp[h.len],fun i s hs=>?_⟩;rw[Qc8 hp];by_cases e2:i=2*p.1+1
 .
  rw[e2,List.getElem?_set_self (by rw[List.length_set];exact hYl)] at hs;obtain rfl:=Option.some.inj hs;rw[e2,agn_y];refine⟨?_,Nat.le_refl _⟩;simp only;rw[(h.q _ _ hy).1];grind
 .
  rw[List.getElem?_set_ne (Ne.symm e2)] at hs;by_cases e1:i=2*p.1
  .
   rw[e1,List.getElem?_set_self hXl] at hs;obtain rfl:=Option.some.inj hs;rw[e1,agn_x];refine⟨?_,Nat.le_refl _⟩;simp only;rw[(h.q _ _ hx).1];grind
  .
   rw[List.getElem?_set_ne (Ne.symm e1)] at hs;obtain⟨h3,h4⟩:=h.q i s hs;refine⟨?_,Nat.le_trans h4 (by simp only[kL];omega)⟩;rw[h3];unfold agnStep;rw[Qaj _ _ e2,Qaj _ _ e1]
theorem Qo0(a1 a2 a3 al:Option Addr)(c1 c2 c3 cl nj nb nh:Nat)(ls:List L3)(vs:List (Nat × Rat × Rat))(w:World)(hg:∃m,w.cell? ⟨5,0,none⟩=some (.int .i64 m))(hl:ARow L3.cells w al cl ls)(hv:LVal ls vs)(n1:nj<=10)(n2:nb<=24)(n3:nh<=20)(hll:ls.length<=1048576):
 Calls prog 129 #[.agg #[.slice a1 nj c1,.slice a2 nb c2,.slice a3 nh c3],.slice al ls.length cl] w (LoadsSays nj (nb+nh) ls vs w):=by
 obtain⟨HL,HV,HG⟩:=Ib hl hv (RBag.start hg);clear hl hv hg;obtain⟨B0,hB0⟩:=nm w.heap.size;obtain⟨V,hV⟩:=nm ((w.alloc (.cells #[.slice a1 nj c1,.slice a2 nb c2,.slice a3 nh c3] 54)).alloc (.cells #[.int .i64 0,.int .i64 0] 57));have HBV:=Ub hV;have HS0:=Ug hV hB0;have HS1:=Uh hV hB0;obtain⟨HVE,HB0⟩:=Ia hV hB0;have HSZ:O (V.heap.size=B0+1+1):=Hi (by rw[<-hV,<-hB0];simp);have hle:w.heap.size<=B0+1:=by omega
 clear hV hB0;go_enter func129,ntmps129;by_cases h20:20<ls.length
 .
  have q0:((ls.length:Int) > 20):=by omega
  obtain⟨x0,x1,x2,-⟩:=zc (HS0.o.below bR HS0.o.lt);have HEN:=Hi (Qkc a1 a2 a3 c1 c2 c3 nj nb nh V n2 n3);rw[<-HVE.o] at x0 x1 x2;rw[<-HB0.o] at x0 x1 x2;go_wp2_with fail;rw[HVE.o];simp only[HB0.o];clear x0 x1 x2;go_fit HEN.o;rintro e v1 ⟨rfl,hb1⟩;obtain⟨HFF,HB1⟩:=Ia (ref_F 2 ((nb:Int)+(nh:Int)) v1) hb1;clear hb1;go_wp2_with fail;go_fit HFF.o;rintro e v2 ⟨rfl,hb2⟩;have HB2:=Hi (HB1.o.trans (hb2.mono HB1.o.size));clear hb2;have hs1:=HS1.o.below HB2.o HS1.o.lt;obtain⟨z0,z1,-⟩:=zc hs1;have f0:=hs1.free 0;have f1:=hs1.free 1;have HY1:=Hi hs1;clear hs1;go_wp2
  refine bodyPost_ret (Qa3 rfl _ _ (B0+1) 57 #[.int .i64 (2),.int .i64 ((nb:Int)+(nh:Int))] (0,0) _ rfl ((HY1.o.set 0 _).set 1 _) underlying57 rfl Tryz.faultInfo) rfl ?_;refine⟨((HBV.o.trans (HB2.o.mono HBV.o.size)).setCell (p:=⟨B0+1,0,none⟩) hle _).setCell (p:=⟨B0+1,1,none⟩) hle _,2,_,.inl ⟨h20,rfl,?_⟩,.inl ⟨by decide,rfl⟩⟩;omega
 .
  have q0:¬((ls.length:Int) > 20):=by omega
  obtain⟨N,hN⟩:=nm (2*nj);have eN:IntKind.i64.wrap (2*(nj:Int))=(N:Int):=by rw[Qac _ (by omega) (by omega)];omega
  have hmk:=fun w=>Qox N (by omega) w
  obtain⟨MC,hMC⟩:=nm ((List.replicate N (Value.pointer none)).toArray);rw[hMC] at hmk;obtain⟨V1,hV1⟩:=nm (V.alloc (.cells MC 40));obtain⟨g,hgV⟩:=nm V.heap.size;have HB01:=Ua hV1;have HN0:O (Noughts V1 g N 0 []):=Hi ⟨by rw[<-hV1,<-hgV,<-hMC];exact SB.new V _ _,(fun t ht=>by cases ht),rfl,(fun t ht=>by cases ht)⟩;have HNE:=Hi hN;have hN20:N<=20:=by omega
  obtain⟨HV1,HGV⟩:=Ia hV1 hgV;have HGB:O (B0+1+1=g):=Hi (by rw[<-hgV];exact HSZ.o.symm);obtain⟨x0,x1,x2,-⟩:=zc (HS0.o.below bR HS0.o.lt);rw[<-HVE.o] at x0 x1 x2;rw[<-HB0.o] at x0 x1 x2;clear hN hMC hV1 hgV;go_wp2_with fail;rw[HVE.o,HV1.o];simp only[HB0.o];rw[HGB.o];clear x0 x1 x2 hmk;go_loopw [23] (fun iv wr=>∃(k:Nat) (ts:List RT),k<=N/\iv=.int .i64 k/\Noughts wr g N k ts/\Below V.heap.size V wr) (fun iv _=>N - (intOf iv).toNat)
  case atStart=>exact⟨0,[],Nat.zero_le _,rfl,HN0.o,HB01.o⟩
  case round=>
   obtain⟨k,ts,hk,rfl,hno,hbw⟩:=hrel;obtain⟨HNO,HBW⟩:=Ia hno hbw;clear hno hbw;by_cases hkN:k<N
   .
    have q1:((k:Int)<(N:Int)):=by omega
    have HNG:=Hi (RBag.nought ((HG.o.below (HBV.o.trans (HBW.o.mono HBV.o.size))).rebase));go_wp2_with fail;go_fit HNG.o;rintro e w2 ⟨b,rfl,hbag⟩;have HB2:=Hi hbag.base;have HV2:=Hi (hbag.ts _ (List.Mem.head _)).1;have hn2:=HNO.o.below hbag.base;have f0:=hn2.blk.free k;have t0:w2.cell? ⟨g,k,none⟩=some (.pointer none):=by
     rw[hn2.blk.cell];have e:(ts.map ptrV++List.replicate (N - k) (Value.pointer none)).toArray[k]?=(ts.map ptrV++List.replicate (N - k) (Value.pointer none))[k]?:=by simp
     rw[e,List.getElem?_append_right (by rw[List.length_map,hn2.len];exact Nat.le_refl _),List.length_map,hn2.len,Nat.sub_self,List.getElem?_replicate,if_pos (by omega)]
    have HN2:=Hi hn2;clear hbag hn2;go_wp2;go_roundw
    case rel=>exact⟨k+1,_,by omega,by go_num,HN2.o.step hkN HV2.o,(HBW.o.trans (HB2.o.mono HBW.o.size)).setCell (p:=⟨g,k,none⟩) (show V.heap.size<=g by have:=HGV.o;omega) _⟩
    case measure=>simp[intOf];omega
   .
    obtain rfl:k=N:=by omega
    have HLS:=Hi (LSum.start (vs:=vs) HNO.o);go_wp2_with fail;go_loopw [33] (fun iv wr=>∃(m:Nat) (ts:List RT),m<=ls.length/\iv=.int .i64 m/\LSum wr g k m vs ts/\(∀(i:Nat) (x:L3),i<m->ls[i]?=some x->IsJ nj x.j)/\Below V.heap.size V wr) (fun iv _=>ls.length - (intOf iv).toNat)
    case atStart=>exact⟨0,ts,Nat.zero_le _,rfl,HLS.o,fun i x hi=>absurd hi (Nat.not_lt_zero _),HBW.o⟩
    case round=>
     obtain⟨m,ts,hm,rfl,hls,hall,hbw⟩:=hrel;obtain⟨HLS,HAL,HBW,HBX⟩:=Ic hls hall hbw (HBV.o.trans (hbw.mono HBV.o.size));clear hls hall hbw;by_cases hml:m<ls.length
     .
      obtain⟨l,hl⟩:∃l,ls[m]?=some l:=⟨ls[m],gE hml⟩;obtain⟨p,hp⟩:∃p,vs[m]?=some p:=⟨vs[m]'(by have:=HV.o.len;omega),gE _⟩;obtain⟨hpj,hpx,hpy,hzx,hzy⟩:=HV.o.at_ m l p hl hp;obtain⟨lb,lo,rfl,hlb,d0,d1,d2⟩:=(HL.o.below HBX.o).load hl;have q1:((m:Int)<(ls.length:Int)):=by omega
      obtain⟨HLM,HPM,HQX,HQY,HPJ⟩:=Id hl hp hpx hpy hpj;clear hl hp hpx hpy hpj;by_cases hj:IsJ nj l.j
      .
       obtain⟨hj0,hj1⟩:=hj;obtain⟨J,hJ⟩:∃J:Nat,l.j=(J:Int):=⟨l.j.toNat,by omega⟩;have HJ:=Hi hJ;have hJn:J<nj:=by omega
       have HPE:O (p.1=J):=Hi (by have:=HPJ.o;omega);rw[hJ] at d0;clear hj0 hj1 hJ;obtain⟨X0,hX0⟩:=nm (wr.alloc (.cells #[.int .i64 J,.string l.x,.string l.y] 98));have HBA:=Ua hX0;have HSA:=Uc hX0;have HBVX:=Hi (HBW.o.trans (HBA.o.mono HBW.o.size));obtain⟨c0,-⟩:=zc HSA.o;obtain⟨x0,x1,x2,-⟩:=zc (HS0.o.below HBVX.o HS0.o.lt);have HX0:=Hi hX0;rw[<-hX0] at c0 x0 x1 x2;clear hX0;have g1:¬((J:Int)<0):=by omega
       have g2:¬((J:Int)≥(nj:Int)):=by omega
       obtain⟨X,hX⟩:=nm (2*J);obtain⟨Y,hY⟩:=nm (2*J+1);have wX:IntKind.i64.wrap (2*(J:Int))=(X:Int):=by rw[Qac _ (by omega) (by omega)];omega
       have wY:IntKind.i64.wrap ((X:Int)+1)=(Y:Int):=by rw[Qac _ (by omega) (by omega)];omega
       have hXk:X<k:=by have:=HNE.o;omega
       have hYk:Y<k:=by have:=HNE.o;omega
       have iX:(X:Int)<(k:Int):=by omega
       have iY:(Y:Int)<(k:Int):=by omega
       have HXY:O (X≠Y):=Hi (by omega);obtain⟨⟨tb,tq,tk⟩,htx⟩:∃t,ts[X]?=some t:=⟨ts[X]'(by have:=HLS.o.len;omega),gE _⟩;obtain⟨⟨ub,uq,uk⟩,huy⟩:∃t,ts[Y]?=some t:=⟨ts[Y]'(by have:=HLS.o.len;omega),gE _⟩;obtain⟨KM,hKM⟩:=nm (kL m);have hKB:KM<=83886121:=by rw[<-hKM];simp only[kL];omega
       have HKN:O (kL (m+1)=KM+4194306):=Hi (by rw[<-hKM];exact Qoz m);have hKt:tk<=KM:=by rw[<-hKM];exact(HLS.o.q X _ htx).2
       have hKu:uk<=KM:=by rw[<-hKM];exact(HLS.o.q Y _ huy).2
       have vt:=HLS.o.blk.vs _ (mO htx);have vu:=HLS.o.blk.vs _ (mO huy);have HTV:O (RatVal wr tb tq/\Fits tq KM/\0<KM):=Hi ⟨vt.1,vt.2.1.mono hKt,Nat.lt_of_lt_of_le vt.2.2 hKt⟩;have HUV:O (RatVal wr ub uq/\Fits uq KM/\0<KM):=Hi ⟨vu.1,vu.2.1.mono hKu,Nat.lt_of_lt_of_le vu.2.2 hKu⟩;have HTX:O (ts[2*p.1]?=some (tb,tq,tk)):=Hi (by rw[HPE.o,hX];exact htx);have HUY:O (ts[2*p.1+1]?=some (ub,uq,uk)):=Hi (by rw[HPE.o,hY];exact huy);have HXE:O (2*p.1=X):=Hi (by rw[HPE.o,hX]);have HYE:O (2*p.1+1=Y):=Hi (by rw[HPE.o,hY]);have HO0:O (X0.cell? ⟨g,X,none⟩=some (.pointer (some ⟨tb,0,none⟩))):=Hi ((HLS.o.blk.below HBA.o).cell htx);have HO1:O (wr.cell? ⟨g,Y,none⟩=some (.pointer (some ⟨ub,0,none⟩))):=Hi (HLS.o.blk.cell huy);have HC0:O (X0.cell? ⟨wr.heap.size,0,none⟩=some (.int .i64 (J:Int))):=Hi (HSA.o.cell 0)
       have HC1:O (X0.cell? ⟨wr.heap.size,1,none⟩=some (.string l.x)):=Hi (HSA.o.cell 1);have hgl:g<X0.heap.size:=(HLS.o.blk.below HBA.o).blk.lt;have hlA:=HSA.o.lt;have HR:O (RBag X0 X0 [(tb,tq,KM)]):=Hi (((HG.o.below (HBX.o.trans (HBA.o.mono HBX.o.size))).rebase).put (HTV.o.1.below HBA.o) HTV.o.2.1 HTV.o.2.2);have HKM:=Hi hKM;clear hX hY htx huy hKM hKt hKu vt vu;go_wp2_with fail;rw[HX0.o];clear c0 x0 x1 x2 d0 d1 d2;have c0:=HC0.o;have c1:=HC1.o;have o0:=HO0.o;refine AnyBut.begin (S:=fun w':World=>w'.cell? ⟨wr.heap.size,0,none⟩=some (.int .i64 (J:Int))/\w'.cell? ⟨wr.heap.size,1,none⟩=some (.string l.x)/\w'.cell? ⟨g,X,none⟩=some (.pointer (some ⟨tb,0,none⟩))) (k:=16) (by kernel_rfl) ?_
       have hHeld:(fun w':World=>w'.cell? ⟨wr.heap.size,0,none⟩=some (.int .i64 (J:Int))/\w'.cell? ⟨wr.heap.size,1,none⟩=some (.string l.x)/\w'.cell? ⟨g,X,none⟩=some (.pointer (some ⟨tb,0,none⟩))) X0.drew:=⟨c0,c1,o0⟩;refine AnyBut.take (i:=0) (v:=?_) rfl (by kernel_rfl) (by kernel_rfl) (by kernel_rfl) (by kernel_rfl) (fun _ _ _ h=>h) (Or.inl ⟨by rfl,?_⟩) hHeld ?_
       rotate_left 1
       (focus(intro w hSw;(try dsimp only at hSw);go_simp;(try with_reducible rfl)));(try simp only[Act.put,List.setIfInBounds_toArray,List.set_cons_zero,List.set_cons_succ]);refine AnyBut.take (i:=1) (v:=?_) rfl (by kernel_rfl) (by kernel_rfl) (by kernel_rfl) (by kernel_rfl) (fun _ _ _ h=>h) (Or.inl ⟨by rfl,?_⟩) hHeld ?_
       rotate_left 1
       (focus(intro w hSw;(try dsimp only at hSw);go_simp;(try with_reducible rfl)));(try simp only[Act.put,List.setIfInBounds_toArray,List.set_cons_zero,List.set_cons_succ]);refine AnyBut.take (i:=2) (v:=?_) rfl (by kernel_rfl) (by kernel_rfl) (by kernel_rfl) (by kernel_rfl) (fun _ _ _ h=>h) (Or.inl ⟨by rfl,?_⟩) hHeld ?_
       rotate_left 1
       (focus(intro w hSw;(try dsimp only at hSw);go_simp;(try with_reducible rfl)));(try simp only[Act.put,List.setIfInBounds_toArray,List.set_cons_zero,List.set_cons_succ]);refine AnyBut.take (i:=3) (v:=?_) rfl (by kernel_rfl) (by kernel_rfl) (by kernel_rfl) (by kernel_rfl) (fun _ _ _ h=>h) (Or.inl ⟨by rfl,?_⟩) hHeld ?_
       rotate_left 1
       (focus(intro w hSw;(try dsimp only at hSw);go_simp;(try with_reducible rfl)));(try simp only[Act.put,List.setIfInBounds_toArray,List.set_cons_zero,List.set_cons_succ]);refine AnyBut.take (i:=4) (v:=?_) rfl (by kernel_rfl) (by kernel_rfl) (by kernel_rfl) (by kernel_rfl) (fun _ _ _ h=>h) (Or.inl ⟨by rfl,?_⟩) hHeld ?_
       rotate_left 1
       (focus(intro w hSw;(try dsimp only at hSw);go_simp;(try with_reducible rfl)));(try simp only[Act.put,List.setIfInBounds_toArray,List.set_cons_zero,List.set_cons_succ]);refine AnyBut.take (i:=5) (v:=?_) rfl (by kernel_rfl) (by kernel_rfl) (by kernel_rfl) (by kernel_rfl) (fun _ _ _ h=>h) (Or.inl ⟨by rfl,?_⟩) hHeld ?_
       rotate_left 1
       (focus(intro w hSw;(try dsimp only at hSw);go_simp;(try with_reducible rfl)));(try simp only[Act.put,List.setIfInBounds_toArray,List.set_cons_zero,List.set_cons_succ]);refine AnyBut.take (i:=6) (v:=?_) rfl (by kernel_rfl) (by kernel_rfl) (by kernel_rfl) (by kernel_rfl) (fun _ _ _ h=>h) (Or.inl ⟨by rfl,?_⟩) hHeld ?_
       rotate_left 1
       (focus(intro w hSw;(try dsimp only at hSw);go_simp;(try with_reducible rfl)));(try simp only[Act.put,List.setIfInBounds_toArray,List.set_cons_zero,List.set_cons_succ]);refine AnyBut.take (i:=7) (v:=?_) rfl (by kernel_rfl) (by kernel_rfl) (by kernel_rfl) (by kernel_rfl) (fun _ _ _ h=>h) (Or.inl ⟨by rfl,?_⟩) hHeld ?_
       rotate_left 1
       (focus(intro w hSw;(try dsimp only at hSw);go_simp;(try with_reducible rfl)));(try simp only[Act.put,List.setIfInBounds_toArray,List.set_cons_zero,List.set_cons_succ]);refine AnyBut.take (i:=8) (v:=?_) rfl (by kernel_rfl) (by kernel_rfl) (by kernel_rfl) (by kernel_rfl) (fun _ _ _ h=>h) (Or.inl ⟨by rfl,?_⟩) hHeld ?_
       rotate_left 1
       (focus(intro w hSw;(try dsimp only at hSw);go_simp;(try with_reducible rfl)));(try simp only[Act.put,List.setIfInBounds_toArray,List.set_cons_zero,List.set_cons_succ]);refine AnyBut.take (i:=9) (v:=?_) rfl (by kernel_rfl) (by kernel_rfl) (by kernel_rfl) (by kernel_rfl) (fun _ _ _ h=>h) (Or.inl ⟨by rfl,?_⟩) hHeld ?_
       rotate_left 1
       (focus(intro w hSw;(try dsimp only at hSw);go_simp;(try with_reducible rfl)));(try simp only[Act.put,List.setIfInBounds_toArray,List.set_cons_zero,List.set_cons_succ]);refine AnyBut.take (i:=10) (v:=?_) rfl (by kernel_rfl) (by kernel_rfl) (by kernel_rfl) (by kernel_rfl) (fun _ _ _ h=>h) (Or.inl ⟨by rfl,?_⟩) hHeld ?_
       rotate_left 1
       (focus(intro w hSw;(try dsimp only at hSw);go_simp;(try with_reducible rfl)));(try simp only[Act.put,List.setIfInBounds_toArray,List.set_cons_zero,List.set_cons_succ]);refine AnyBut.take (i:=11) (v:=?_) rfl (by kernel_rfl) (by kernel_rfl) (by kernel_rfl) (by kernel_rfl) (fun _ _ _ h=>h) (Or.inl ⟨by rfl,?_⟩) hHeld ?_
       rotate_left 1
       (focus(intro w hSw;(try dsimp only at hSw);go_simp;(try with_reducible rfl)));(try simp only[Act.put,List.setIfInBounds_toArray,List.set_cons_zero,List.set_cons_succ]);refine AnyBut.take (i:=12) (v:=?_) rfl (by kernel_rfl) (by kernel_rfl) (by kernel_rfl) (by kernel_rfl) (fun _ _ _ h=>h) (Or.inl ⟨by rfl,?_⟩) hHeld ?_
       rotate_left 1
       (focus(intro w hSw;(try dsimp only at hSw);go_simp;(try with_reducible rfl)));(try simp only[Act.put,List.setIfInBounds_toArray,List.set_cons_zero,List.set_cons_succ]);clear hHeld;refine AnyBut.one (i:=13) (by kernel_rfl) rfl (fun K hK=>?_);go_simp;apply cM;apply RBag.of (w0:=X0) (n:=1048576);exact HR.o.drew;omega;omega;rintro e wo ⟨q,hq,bq,rfl,hbag⟩;rw[hq.inj HQX.o] at hbag;clear HR;have HR:=Hi hbag;clear hq hbag;clear c0 c1 o0;obtain⟨c0,c1⟩:=Ja HR.o.base hlA HC0.o HC1.o;have o0:=ce HR.o.base hgl HO0.o;refine hK.out _ _ (fun _=>⟨c0,c1,o0⟩) ?_;clear hK K;(try simp only[Act.put,List.setIfInBounds_toArray,List.set_cons_zero,List.set_cons_succ]);refine AnyBut.one (i:=14) (by kernel_rfl) rfl (fun K hK=>?_);go_simp;apply cM
       apply RBag.add (w0:=X0);exact HR.o;(focus(repeat(first|exact mH|apply mT)));(focus(repeat(first|exact mH|apply mT)));omega;rintro e wn ⟨b3,rfl,hbag⟩;clear HR;have HR:=Hi hbag;clear hbag;clear c0 c1 o0;obtain⟨c0,c1⟩:=Ja HR.o.base hlA HC0.o HC1.o;have o0:=ce HR.o.base hgl HO0.o;have f0:=((HLS.o.blk.below HBA.o).below HR.o.base).blk.free X;refine hK.out _ _ (fun _=>⟨c0,c1,o0⟩) ?_;clear hK K;(try simp only[Act.put,List.setIfInBounds_toArray,List.set_cons_zero,List.set_cons_succ]);have hHeld:(fun w':World=>w'.cell? ⟨wr.heap.size,0,none⟩=some (.int .i64 (J:Int))/\w'.cell? ⟨wr.heap.size,1,none⟩=some (.string l.x)/\w'.cell? ⟨g,X,none⟩=some (.pointer (some ⟨tb,0,none⟩))) wn:=⟨c0,c1,o0⟩
       refine AnyBut.take (i:=15) (v:=?_) rfl (by kernel_rfl) (by kernel_rfl) (by kernel_rfl) (by kernel_rfl) (fun _ _ _ h=>h) (Or.inl ⟨by rfl,?_⟩) hHeld ?_
       rotate_left 1
       (focus(intro w hSw;(try dsimp only at hSw);go_simp;(try with_reducible rfl)));(try simp only[Act.put,List.setIfInBounds_toArray,List.set_cons_zero,List.set_cons_succ]);clear hHeld;refine AnyBut.one (i:=16) (by kernel_rfl) rfl (fun K hK=>?_);go_simp;refine hK.out _ _ (fun h=>absurd rfl h) ?_;clear hK K;(try simp only[Act.put,List.setIfInBounds_toArray,List.set_cons_zero,List.set_cons_succ]);refine AnyBut.done (by kernel_rfl) ?_ _;clear c0 c1 o0 f0;have h1:=HR.o.ts _ (List.Mem.head _);have HB1:=Hi (HBA.o.trans (HR.o.base.mono HBA.o.size));have HV1':O (RatVal wn b3 (tq+p.2.1)):=Hi h1.1;have HF1':O (Fits (tq+p.2.1) (KM+4194306)):=Hi (h1.2.1.mono (by simp only;omega));obtain⟨Z,hZ⟩:=nm (wn.setCell ⟨g,X,none⟩ (.pointer (some ⟨b3,0,none⟩)));have hpz:PBlk Z g (ts.set X (b3,tq+p.2.1,KM+4194306)):=by rw[<-hZ];exact(HLS.o.blk.below HB1.o).set h1.1 HF1'.o (by omega)
       have hoz:Only g wn Z:=by rw[<-hZ];exact(Only.refl g wn).setCell _ _
       have hgwr:g<wr.heap.size:=HLS.o.blk.blk.lt;have hsz:=(HSA.o.below HR.o.base HSA.o.lt).only hoz (by omega);have hbz:Below w.heap.size w Z:=(HBX.o.trans (HB1.o.mono HBX.o.size)).trans (hoz.below (by have e1:=HGV.o;have e2:=HBV.o.size;omega) (Nat.le_trans HBX.o.size HB1.o.size));have hYs:(ts.set X (b3,tq+p.2.1,KM+4194306))[Y]?=some (ub,uq,uk):=by rw[List.getElem?_set_ne HXY.o,<-HYE.o];exact HUY.o
       have huz:=hpz.vs _ (mO hYs);have HR:O (RBag Z Z [(ub,uq,KM)]):=Hi ((HG.o.below hbz).rebase.put huz.1 HUV.o.2.1 HUV.o.2.2);have HC0:O (Z.cell? ⟨wr.heap.size,0,none⟩=some (.int .i64 (J:Int))):=Hi (hsz.cell 0);have HC2:O (Z.cell? ⟨wr.heap.size,2,none⟩=some (.string l.y)):=Hi (hsz.cell 2);have HO1:O (Z.cell? ⟨g,Y,none⟩=some (.pointer (some ⟨ub,0,none⟩))):=Hi (hpz.cell hYs);have hlZ:=hsz.lt;have hgZ:=hpz.blk.lt;obtain⟨HPZ,HZE,HBZ⟩:=Ib hpz hZ hbz;have c0:=HC0.o;have c2:=HC2.o;have o1:=HO1.o;clear h1 hpz hoz hgwr hsz hbz hYs huz hZ;go_wp2_with fail;rw[HZE.o];refine AnyBut.begin (S:=fun w':World=>w'.cell? ⟨wr.heap.size,0,none⟩=some (.int .i64 (J:Int))/\w'.cell? ⟨wr.heap.size,2,none⟩=some (.string l.y)/\w'.cell? ⟨g,Y,none⟩=some (.pointer (some ⟨ub,0,none⟩))) (k:=18) (by kernel_rfl) ?_
       have hHeld:(fun w':World=>w'.cell? ⟨wr.heap.size,0,none⟩=some (.int .i64 (J:Int))/\w'.cell? ⟨wr.heap.size,2,none⟩=some (.string l.y)/\w'.cell? ⟨g,Y,none⟩=some (.pointer (some ⟨ub,0,none⟩))) Z.drew:=⟨c0,c2,o1⟩;refine AnyBut.take (i:=0) (v:=?_) rfl (by kernel_rfl) (by kernel_rfl) (by kernel_rfl) (by kernel_rfl) (fun _ _ _ h=>h) (Or.inl ⟨by rfl,?_⟩) hHeld ?_
       rotate_left 1
       (focus(intro w hSw;(try dsimp only at hSw);go_simp;(try with_reducible rfl)));(try simp only[Act.put,List.setIfInBounds_toArray,List.set_cons_zero,List.set_cons_succ]);refine AnyBut.take (i:=1) (v:=?_) rfl (by kernel_rfl) (by kernel_rfl) (by kernel_rfl) (by kernel_rfl) (fun _ _ _ h=>h) (Or.inl ⟨by rfl,?_⟩) hHeld ?_
       rotate_left 1
       (focus(intro w hSw;(try dsimp only at hSw);go_simp;(try with_reducible rfl)));(try simp only[Act.put,List.setIfInBounds_toArray,List.set_cons_zero,List.set_cons_succ]);refine AnyBut.take (i:=2) (v:=?_) rfl (by kernel_rfl) (by kernel_rfl) (by kernel_rfl) (by kernel_rfl) (fun _ _ _ h=>h) (Or.inl ⟨by rfl,?_⟩) hHeld ?_
       rotate_left 1
       (focus(intro w hSw;(try dsimp only at hSw);go_simp;(try with_reducible rfl)));(try simp only[Act.put,List.setIfInBounds_toArray,List.set_cons_zero,List.set_cons_succ]);refine AnyBut.take (i:=3) (v:=?_) rfl (by kernel_rfl) (by kernel_rfl) (by kernel_rfl) (by kernel_rfl) (fun _ _ _ h=>h) (Or.inl ⟨by rfl,?_⟩) hHeld ?_
       rotate_left 1
       (focus(intro w hSw;(try dsimp only at hSw);go_simp;(try with_reducible rfl)));(try simp only[Act.put,List.setIfInBounds_toArray,List.set_cons_zero,List.set_cons_succ]);refine AnyBut.take (i:=4) (v:=?_) rfl (by kernel_rfl) (by kernel_rfl) (by kernel_rfl) (by kernel_rfl) (fun _ _ _ h=>h) (Or.inl ⟨by rfl,?_⟩) hHeld ?_
       rotate_left 1
       (focus(intro w hSw;(try dsimp only at hSw);go_simp;(try with_reducible rfl)));(try simp only[Act.put,List.setIfInBounds_toArray,List.set_cons_zero,List.set_cons_succ]);refine AnyBut.take (i:=5) (v:=?_) rfl (by kernel_rfl) (by kernel_rfl) (by kernel_rfl) (by kernel_rfl) (fun _ _ _ h=>h) (Or.inl ⟨by rfl,?_⟩) hHeld ?_
       rotate_left 1
       (focus(intro w hSw;(try dsimp only at hSw);go_simp;(try with_reducible rfl)));(try simp only[Act.put,List.setIfInBounds_toArray,List.set_cons_zero,List.set_cons_succ]);refine AnyBut.take (i:=6) (v:=?_) rfl (by kernel_rfl) (by kernel_rfl) (by kernel_rfl) (by kernel_rfl) (fun _ _ _ h=>h) (Or.inl ⟨by rfl,?_⟩) hHeld ?_
       rotate_left 1
       (focus(intro w hSw;(try dsimp only at hSw);go_simp;(try with_reducible rfl)));(try simp only[Act.put,List.setIfInBounds_toArray,List.set_cons_zero,List.set_cons_succ]);refine AnyBut.take (i:=7) (v:=?_) rfl (by kernel_rfl) (by kernel_rfl) (by kernel_rfl) (by kernel_rfl) (fun _ _ _ h=>h) (Or.inl ⟨by rfl,?_⟩) hHeld ?_
       rotate_left 1
       (focus(intro w hSw;(try dsimp only at hSw);go_simp;(try with_reducible rfl)));(try simp only[Act.put,List.setIfInBounds_toArray,List.set_cons_zero,List.set_cons_succ]);refine AnyBut.take (i:=8) (v:=?_) rfl (by kernel_rfl) (by kernel_rfl) (by kernel_rfl) (by kernel_rfl) (fun _ _ _ h=>h) (Or.inl ⟨by rfl,?_⟩) hHeld ?_
       rotate_left 1
       (focus(intro w hSw;(try dsimp only at hSw);go_simp;(try with_reducible rfl)));(try simp only[Act.put,List.setIfInBounds_toArray,List.set_cons_zero,List.set_cons_succ]);refine AnyBut.take (i:=9) (v:=?_) rfl (by kernel_rfl) (by kernel_rfl) (by kernel_rfl) (by kernel_rfl) (fun _ _ _ h=>h) (Or.inl ⟨by rfl,?_⟩) hHeld ?_
       rotate_left 1
       (focus(intro w hSw;(try dsimp only at hSw);go_simp;(try with_reducible rfl)));(try simp only[Act.put,List.setIfInBounds_toArray,List.set_cons_zero,List.set_cons_succ]);refine AnyBut.take (i:=10) (v:=?_) rfl (by kernel_rfl) (by kernel_rfl) (by kernel_rfl) (by kernel_rfl) (fun _ _ _ h=>h) (Or.inl ⟨by rfl,?_⟩) hHeld ?_
       rotate_left 1
       (focus(intro w hSw;(try dsimp only at hSw);go_simp;(try with_reducible rfl)));(try simp only[Act.put,List.setIfInBounds_toArray,List.set_cons_zero,List.set_cons_succ]);refine AnyBut.take (i:=11) (v:=?_) rfl (by kernel_rfl) (by kernel_rfl) (by kernel_rfl) (by kernel_rfl) (fun _ _ _ h=>h) (Or.inl ⟨by rfl,?_⟩) hHeld ?_
       rotate_left 1
       (focus(intro w hSw;(try dsimp only at hSw);go_simp;(try with_reducible rfl)));(try simp only[Act.put,List.setIfInBounds_toArray,List.set_cons_zero,List.set_cons_succ]);refine AnyBut.take (i:=12) (v:=?_) rfl (by kernel_rfl) (by kernel_rfl) (by kernel_rfl) (by kernel_rfl) (fun _ _ _ h=>h) (Or.inl ⟨by rfl,?_⟩) hHeld ?_
       rotate_left 1
       (focus(intro w hSw;(try dsimp only at hSw);go_simp;(try with_reducible rfl)));(try simp only[Act.put,List.setIfInBounds_toArray,List.set_cons_zero,List.set_cons_succ]);refine AnyBut.take (i:=13) (v:=?_) rfl (by kernel_rfl) (by kernel_rfl) (by kernel_rfl) (by kernel_rfl) (fun _ _ _ h=>h) (Or.inl ⟨by rfl,?_⟩) hHeld ?_
       rotate_left 1
       (focus(intro w hSw;(try dsimp only at hSw);go_simp;(try with_reducible rfl)));(try simp only[Act.put,List.setIfInBounds_toArray,List.set_cons_zero,List.set_cons_succ]);refine AnyBut.take (i:=14) (v:=?_) rfl (by kernel_rfl) (by kernel_rfl) (by kernel_rfl) (by kernel_rfl) (fun _ _ _ h=>h) (Or.inl ⟨by rfl,?_⟩) hHeld ?_
       rotate_left 1
       (focus(intro w hSw;(try dsimp only at hSw);go_simp;(try with_reducible rfl)));(try simp only[Act.put,List.setIfInBounds_toArray,List.set_cons_zero,List.set_cons_succ]);clear hHeld;refine AnyBut.one (i:=15) (by kernel_rfl) rfl (fun K hK=>?_);go_simp;apply cM;apply RBag.of (w0:=Z) (n:=1048576);exact HR.o.drew;omega;omega;rintro e wo ⟨q,hq,bq,rfl,hbag⟩;rw[hq.inj HQY.o] at hbag;clear HR;have HR:=Hi hbag;clear hq hbag;clear c0 c2 o1;obtain⟨c0,c2⟩:=Ja HR.o.base hlZ HC0.o HC2.o;have o1:=ce HR.o.base hgZ HO1.o;refine hK.out _ _ (fun _=>⟨c0,c2,o1⟩) ?_;clear hK K;(try simp only[Act.put,List.setIfInBounds_toArray,List.set_cons_zero,List.set_cons_succ]);refine AnyBut.one (i:=16) (by kernel_rfl) rfl (fun K hK=>?_);go_simp;apply cM
       apply RBag.add (w0:=Z);exact HR.o;(focus(repeat(first|exact mH|apply mT)));(focus(repeat(first|exact mH|apply mT)));omega;rintro e wm ⟨b6,rfl,hbag⟩;clear HR;have HR:=Hi hbag;clear hbag;clear c0 c2 o1;obtain⟨c0,c2⟩:=Ja HR.o.base hlZ HC0.o HC2.o;have o1:=ce HR.o.base hgZ HO1.o;have f0:=(HPZ.o.below HR.o.base).blk.free Y;refine hK.out _ _ (fun _=>⟨c0,c2,o1⟩) ?_;clear hK K;(try simp only[Act.put,List.setIfInBounds_toArray,List.set_cons_zero,List.set_cons_succ]);have hHeld:(fun w':World=>w'.cell? ⟨wr.heap.size,0,none⟩=some (.int .i64 (J:Int))/\w'.cell? ⟨wr.heap.size,2,none⟩=some (.string l.y)/\w'.cell? ⟨g,Y,none⟩=some (.pointer (some ⟨ub,0,none⟩))) wm:=⟨c0,c2,o1⟩
       refine AnyBut.take (i:=17) (v:=?_) rfl (by kernel_rfl) (by kernel_rfl) (by kernel_rfl) (by kernel_rfl) (fun _ _ _ h=>h) (Or.inl ⟨by rfl,?_⟩) hHeld ?_
       rotate_left 1
       (focus(intro w hSw;(try dsimp only at hSw);go_simp;(try with_reducible rfl)));(try simp only[Act.put,List.setIfInBounds_toArray,List.set_cons_zero,List.set_cons_succ]);clear hHeld;refine AnyBut.one (i:=18) (by kernel_rfl) rfl (fun K hK=>?_);go_simp;refine hK.out _ _ (fun h=>absurd rfl h) ?_;clear hK K;(try simp only[Act.put,List.setIfInBounds_toArray,List.set_cons_zero,List.set_cons_succ]);refine AnyBut.done (by kernel_rfl) ?_ _;clear c0 c2 o1 f0;have h2:=HR.o.ts _ (List.Mem.head _);have hst:=HLS.o.step (b1:=b3) (b2:=b6) (w1:=wn) HPM.o HTX.o HUY.o HB1.o HV1'.o (by rw[HKN.o];exact HF1'.o) (w2:=wm) (by
        rw[HXE.o,HZE.o];have e:=HR.o.base;have es:Z.heap.size=wn.heap.size:=by rw[<-HZE.o];simp[World.setCell]
        rw[es] at e
        exact e) h2.1 (by rw[HKN.o];exact h2.2.1.mono (by simp only;omega))
       rw[HYE.o,HXE.o] at hst;have HST:=Hi hst;have HBE:O (Below V.heap.size V (wm.setCell ⟨g,Y,none⟩ (.pointer (some ⟨b6,0,none⟩)))):=Hi (by
        have e1:V.heap.size<=g:=by have:=HGV.o;omega
        have b1:Below V.heap.size V wn:=HBW.o.trans (HB1.o.mono HBW.o.size);have b2:Below V.heap.size V Z:=by rw[<-HZE.o];exact b1.setCell (p:=⟨g,X,none⟩) e1 _
        exact(b2.trans (HR.o.base.mono b2.size)).setCell (p:=⟨g,Y,none⟩) e1 _)
       have HAN:O (∀(i:Nat) (x:L3),i<m+1->ls[i]?=some x->IsJ nj x.j):=Hi (fun i x hi hx=>by
        by_cases him:i<m
        . exact HAL.o i x him hx
        .
         obtain rfl:i=m:=by omega
         obtain rfl:=Option.some.inj (HLM.o.symm.trans hx);rw[HJ.o]
         exact⟨by omega,by omega⟩)
       clear h2 hst;go_wp2;go_roundw
       case rel=>exact⟨m+1,_,by omega,by go_num,HST.o,HAN.o,HBE.o⟩
       case measure=>simp[intOf];omega
      .
       obtain⟨j,hje⟩:=nm l.j;rw[hje] at d0 hj;obtain⟨HJE,HNJ⟩:=Ia hje hj;clear hje;obtain⟨X0,hX0⟩:=nm (wr.alloc (.cells #[.int .i64 j,.string l.x,.string l.y] 98));have HBA:=Ua hX0;have HSA:=Uc hX0;have HBVX:=Hi (HBW.o.trans (HBA.o.mono HBW.o.size));obtain⟨c0,-⟩:=zc HSA.o;obtain⟨x0,x1,x2,-⟩:=zc (HS0.o.below HBVX.o HS0.o.lt);have HX0:=Hi hX0;rw[<-hX0] at c0 x0 x1 x2;clear hX0;have HEN:=Hi (Qkc a1 a2 a3 c1 c2 c3 nj nb nh X0 n2 n3)
       have wS:IntKind.i64.wrap ((nb:Int)+(nh:Int)+(m:Int))=(nb:Int)+(nh:Int)+(m:Int):=Qac _ (by omega) (by omega);by_cases hneg:j<0
       .
        go_wp2_with fail;rw[HX0.o];clear c0 x0 x1 x2 d0 d1 d2;go_fit HEN.o;rintro e v1 ⟨rfl,hb1⟩;obtain⟨HB1,HFF⟩:=Ia (HBVX.o.trans (hb1.mono HBVX.o.size)) (ref_F 4 ((nb:Int)+(nh:Int)+(m:Int)) v1);clear hb1;go_wp2_with fail;go_fit HFF.o;rintro e v2 ⟨rfl,hb2⟩;have HB2:=Hi (HB1.o.trans (hb2.mono HB1.o.size));clear hb2;have hs1:=HS1.o.below HB2.o HS1.o.lt;obtain⟨z0,z1,-⟩:=zc hs1;have f0:=hs1.free 0;have f1:=hs1.free 1;have HY1:=Hi hs1;clear hs1;go_wp2;refine bodyPost_ret (Qa3 rfl _ _ (B0+1) 57 #[.int .i64 (4),.int .i64 ((nb:Int)+(nh:Int)+(m:Int))] (0,0) _ rfl ((HY1.o.set 0 _).set 1 _) underlying57 rfl Tryz.faultInfo) rfl ?_
        refine⟨((HBV.o.trans (HB2.o.mono HBV.o.size)).setCell (p:=⟨B0+1,0,none⟩) hle _).setCell (p:=⟨B0+1,1,none⟩) hle _,4,_,.inr ⟨by omega,.inl ⟨m,l,HLM.o,HAL.o,fun h=>HNJ.o (HJE.o ▸ h),rfl,?_⟩⟩,.inl ⟨by decide,rfl⟩⟩;omega
       .
        have hge:(j≥(nj:Int)):=Int.not_lt.1 fun h=>HNJ.o ⟨by omega,h⟩
        go_wp2_with fail;rw[HX0.o];clear c0 x0 x1 x2 d0 d1 d2;go_fit HEN.o;rintro e v1 ⟨rfl,hb1⟩;obtain⟨HB1,HFF⟩:=Ia (HBVX.o.trans (hb1.mono HBVX.o.size)) (ref_F 4 ((nb:Int)+(nh:Int)+(m:Int)) v1);clear hb1;go_wp2_with fail;go_fit HFF.o;rintro e v2 ⟨rfl,hb2⟩;have HB2:=Hi (HB1.o.trans (hb2.mono HB1.o.size));clear hb2;have hs1:=HS1.o.below HB2.o HS1.o.lt;obtain⟨z0,z1,-⟩:=zc hs1;have f0:=hs1.free 0;have f1:=hs1.free 1;have HY1:=Hi hs1;clear hs1;go_wp2;refine bodyPost_ret (Qa3 rfl _ _ (B0+1) 57 #[.int .i64 (4),.int .i64 ((nb:Int)+(nh:Int)+(m:Int))] (0,0) _ rfl ((HY1.o.set 0 _).set 1 _) underlying57 rfl Tryz.faultInfo) rfl ?_
        refine⟨((HBV.o.trans (HB2.o.mono HBV.o.size)).setCell (p:=⟨B0+1,0,none⟩) hle _).setCell (p:=⟨B0+1,1,none⟩) hle _,4,_,.inr ⟨by omega,.inl ⟨m,l,HLM.o,HAL.o,fun h=>HNJ.o (HJE.o ▸ h),rfl,?_⟩⟩,.inl ⟨by decide,rfl⟩⟩;omega
     .
      obtain rfl:m=ls.length:=by omega
      have hs1:=HS1.o.below HBW.o HS1.o.lt;obtain⟨z0,z1,-⟩:=zc hs1;have f0:=hs1.free 0;have f1:=hs1.free 1;have HY1:=Hi hs1;clear hs1;have HLE:O (∀(i:Nat) (t:RT),ts[i]?=some t->t.2.1= -agn vs i/\t.2.2<=kL 20):=Hi (fun i t ht=>by
       obtain⟨h1,h2⟩:=HLS.o.q i t ht;rw[<-HV.o.len,List.take_length] at h1
       exact⟨h1,Nat.le_trans h2 (by simp only[kL];omega)⟩)
      go_wp2;refine bodyPost_ret (Qa3 rfl _ _ (B0+1) 57 #[.int .i64 (0),.int .i64 (0)] (0,0) _ rfl ((HY1.o.set 0 _).set 1 _) underlying57 rfl Tryz.faultInfo) rfl ?_;have ho:Only (B0+1) wr ((wr.setCell ⟨B0+1,0,none⟩ (.int .i64 0)).setCell ⟨B0+1,1,none⟩ (.int .i64 0)):=((Only.refl _ _).setCell _ _).setCell _ _;refine⟨(HBX.o.setCell (p:=⟨B0+1,0,none⟩) hle _).setCell (p:=⟨B0+1,1,none⟩) hle _,0,0,.inr ⟨by omega,.inr ⟨fun i x hx=>HAL.o i x (gZ hx).1 hx,rfl,rfl⟩⟩,.inr ⟨rfl,g,k,ts,HNE.o.symm,rfl,⟨HLS.o.blk.blk.only ho (by have:=HGB.o;omega),fun t ht=>?_⟩,HLS.o.len,HLE.o⟩⟩;obtain⟨v1,v2,v3⟩:=HLS.o.blk.vs t ht;exact⟨v1.only32 ho HY1.o (by decide) (fun i n h=>by match i,h with|0,h=>simp at h|1,h=>simp at h|i+2,h=>simp at h),v2,v3⟩
end Go.Proofs.YtjgofdclmcpopaaGreatDoor
