/- A region that draws its order: a condition on the world that holds behind every operation but some, the last ones. -/
import Derived.Test.YtbbkamnfjejceaaGreatDoorR40StillC
namespace Go.Proofs.YtbbkamnfjejceaaGreatDoor
open Go.RowKit
set_option linter.unusedVariables false
set_option linter.unusedSimpArgs false
def agnStep(v:Vec)(p:Nat × Rat × Rat):Vec:=upd (upd v (2*p.1) (v (2*p.1) - p.2.1)) (2*p.1+1) (v (2*p.1+1) - p.2.2)
def agn(vs:List (Nat × Rat × Rat)):Vec:=vs.foldl agnStep (fun _=>0)
theorem Qft{vs:List (Nat × Rat × Rat)}{k:Nat}{p:Nat × Rat × Rat}(h:vs[k]?=some p):agn (vs.take (k+1))=agnStep (agn (vs.take k)) p:=by
 unfold agn;rw[List.take_add_one,h];simp[List.foldl_append]
theorem agn_x{v:Vec}{p:Nat × Rat × Rat}:agnStep v p (2*p.1)=v (2*p.1) - p.2.1:=by
 unfold agnStep;rw[Qa1 _ _ (by omega),Qb3]
theorem agn_y{v:Vec}{p:Nat × Rat × Rat}:agnStep v p (2*p.1+1)=v (2*p.1+1) - p.2.2:=Qb3 _ _ _
theorem Qje{v:Vec}{p:Nat × Rat × Rat}{i:Nat}(h1:i≠2*p.1)(h2:i≠2*p.1+1):agnStep v p i=v i:=by
 unfold agnStep;rw[Qa1 _ _ h2,Qa1 _ _ h1]
structure LoadV (n:Nat) (l:L3) (p:Nat × Rat × Rat):Prop where
 j:l.j=(p.1:Nat)
 lt:p.1<n
 x:QOf l.x.data.toList p.2.1
 y:QOf l.y.data.toList p.2.2
 sx:l.x.size≤1048576
 sy:l.y.size≤1048576
theorem Qfu{s:ByteArray}{q:Rat}{w:World}(hg:Glob w)(hq:QOf s.data.toList q)(hs:s.size≤1048576):Calls Tryz.prog 85 #[.string s] w (FNew w q):=by
 obtain⟨m,hm⟩:=hg.most;refine(Qh5 s m w hm (by omega)).mono ?_;rintro e w' ⟨q',h1,h2⟩;rw[hq.inj h1];exact h2
theorem Qfv{w:World}{g K i:Nat}{us:List FE}{x y z:Value}{q:Rat}(h:QBlk w g us)(hi:i<us.length)(hv:FracV w (.agg #[x,y,z]) q)(hf:Fits q K)(hK:0<K):QBlk (((w.setCell ⟨g,i*3,none⟩ x).setCell ⟨g,i*3+1,none⟩ y).setCell ⟨g,i*3+2,none⟩ z) g (us.set i ⟨x,y,z,q,K⟩):=
 h.set (k:=i) (e:=⟨x,y,z,q,K⟩) hi ⟨hv,hf,hK⟩
set_option maxRecDepth 100000 in
set_option maxHeartbeats 4000000 in
theorem Qrn(a1 a2 a3 al:Option Addr)(c1 c2 c3 cl nj nb nh K:Nat)(ls:List L3)(vs:List (Nat × Rat × Rat))(w:World)(hg:Glob w)(hl:ARow L3.cells w al cl ls)(hll:ls.length≤1000)(hn:nj≤10)(hvl:vs.length=ls.length)(hlv:∀(i:Nat) (l:L3) (p:Nat × Rat × Rat),ls[i]?=some l→vs[i]?=some p→LoadV nj l p)
 (hK0:0<K) (hK:K+4194305<68719476000) (hfit:∀k i,Fits (agn (vs.take k) i) K):
 Calls Tryz.prog 123 #[.agg #[.slice a1 nj c1,.slice a2 nb c2,.slice a3 nh c3],.slice al ls.length cl] w fun e w'=>(∃(g N:Nat) (us:List FE),N=2*nj∧e=.returned (.slice (some ⟨g,0,none⟩) N N)∧QBlk w' g us∧us.length=N∧∀(i:Nat) (t:FE),us[i]?=some t→t.q=agn vs i∧t.k≤K)∧Below w.heap.size w w':=by
 have HG:=Hi hg;have HLS:=Hi hl;have HVL:=Hi hvl;have HLV:=Hi hlv;have HF:=Hi hfit;obtain⟨N,hN⟩:∃N,2*nj=N:=⟨_,rfl⟩;have hmk:=fun w=>Qcq N (by omega) w
 obtain⟨MC,hMC⟩:∃MC,((List.replicate N FE.zero).flatMap FE.cells).toArray=MC:=⟨_,rfl⟩;rw[hMC] at hmk;have HMC:=Hi hMC.symm;have hNi:2*(nj:Int)=(N:Int):=by omega
 have HWY:=Hi (fun u=>Qfs a1 a2 a3 c1 c2 c3 nj nb nh u hn);simp only[hNi] at HWY;have HN:=Hi hN;clear hN hNi;clear hg hl hvl hlv hfit hMC;go_enter Tryz.func123,Tryz.ntmps123;go_wp2_with fail;go_fit (HWY.out _);rintro e w1 ⟨rfl,hb1⟩;have HB1:Hid (Below w.heap.size w w1):=Hi (((Below.refl _ _).alloc (Nat.le_refl _) _).trans (hb1.mono (by simp)));clear hb1;obtain⟨g,hg⟩:∃g,w1.heap.size=g:=⟨_,rfl⟩;obtain⟨V,hV⟩:∃V,w1.alloc (.cells MC 77)=V:=⟨_,rfl⟩;have hgw:w.heap.size≤g:=by rw[←hg];exact HB1.out.size
 have HB0:Hid (Below w.heap.size w V):=Hi (by rw[←hV];exact HB1.out.alloc HB1.out.size _);have HQ0:Hid (QBlk V g (List.replicate N FE.zero)):=Hi (by rw[←hV,←hg];exact QBlk.new w1 N MC HMC.out);have HV:=Hi hV;clear hV;go_wp2_with fail;rw[HV.out]
 try rw[hg]
 clear hmk;go_loopw [14] (fun i wr=>∃(k:Nat) (us:List FE),k≤ls.length∧i=.int .i64 k∧us.length=N∧QBlk wr g us∧(∀(i:Nat) (t:FE),us[i]?=some t→t.q=agn (vs.take k) i∧t.k≤K)∧Below w.heap.size w wr) (fun i _=>ls.length - (intOf i).toNat)
 case atStart=>
  refine⟨0,_,Nat.zero_le _,rfl,by simp,HQ0.out,fun i t ht=>?_,HB0.out⟩;obtain⟨_,rfl⟩:=List.mem_replicate.1 (List.mem_of_getElem? ht);exact⟨rfl,hK0⟩
 case round=>
  obtain⟨k,us,hk,rfl,hul,hqb,hus,hb⟩:=hrel;have HU:=Hi hul;have HQ:=Hi hqb;have HUS:=Hi hus;have HB:=Hi hb;clear hul hqb hus hb;by_cases hlt:k<ls.length
  ·
   obtain⟨l,hl⟩:∃l,ls[k]?=some l:=⟨ls[k],List.getElem?_eq_getElem hlt⟩;obtain⟨p,hp⟩:∃p,vs[k]?=some p:=⟨vs[k]'(by have:=HVL.out;omega),List.getElem?_eq_getElem (by have:=HVL.out;omega)⟩;have hlp:=HLV.out k l p hl hp;obtain⟨lb,lo,rfl,hlb,d0,d1,d2⟩:=(HLS.out.below HB.out).load hl;obtain⟨lb',lo',e',hlw,_⟩:=HLS.out.load hl;cases e';rw[hlp.j] at d0;have hne:lb≠g:=by omega
   have hne':=hne.symm;obtain⟨X,hX⟩:∃X,2*p.1=X:=⟨_,rfl⟩;obtain⟨Y,hY⟩:∃Y,2*p.1+1=Y:=⟨_,rfl⟩;have hXi:2*(p.1:Int)=(X:Int):=by omega
   have hYi:2*(p.1:Int)+1=(Y:Int):=by omega
   have hlt2:=hlp.lt;have hXN:X<N:=by have:=HN.out;omega
   have hYN:Y<N:=by have:=HN.out;omega
   have HRX:=Hi (fun u=>Qd0 p.1 u (by omega));have HRY:=Hi (fun u=>Qd1 p.1 u (by omega));simp only[hYi] at HRY;simp only[hXi] at HRX;have hXY:X≠Y:=by omega
   have HX:=Hi hX;have HY:=Hi hY;have HP:=Hi hp;have HLP:=Hi hlp;have q1:((k:Int)<(ls.length:Int)):=by omega
   have q2:((X:Int)<(N:Int)):=by omega
   have q3:((Y:Int)<(N:Int)):=by omega
   have HLL:=Hi hl;clear hl hp hlp hX hY hXi hYi hlt2;go_wp2_with fail;go_region_held3 (fun v=>v.cell? ⟨lb,lo+k*3,none⟩=some (.int .i64 (p.1:Nat))) ((first|(simp [*];done)|go_keep)) (first
    |(
     go_at_call 136;apply Calls.mono;apply HRX.out
     rintro e2 w2 ⟨rfl,rfl⟩)
    |(
     go_at_call 137;apply Calls.mono;apply HRY.out
     rintro e2 w2 ⟨rfl,rfl⟩)
    |fail)
   obtain⟨z0,hz0⟩:∃z0,us[X]?=some z0:=⟨us[X]'(by have:=HU.out;omega),List.getElem?_eq_getElem (by have:=HU.out;omega)⟩;have HZ:=Hi (HQ.out.row.get hz0);have HZQ:=Hi (HUS.out _ _ hz0);obtain⟨gy,oy,hgy,_,t0,t1,t2⟩:=HQ.out.row.at hz0;cases hgy;simp only[Nat.zero_add] at t0 t1 t2;have HT0:=Hi t0;have HT1:=Hi t1;have HT2:=Hi t2;have HD1:=Hi d1;have hgl:=HQ.out.blk.lt;have HOX:=Hi (fun u (hu:Below wr.heap.size wr u)=>Qfu ((HG.out.below HB.out).below hu) HLP.out.x HLP.out.sx);have HFX:=Hi (HLP.out.x.fits (n:=1048576) (by have:=HLP.out.sx;simpa using this));have hzk:=HZQ.out.2;clear hz0;go_wp2_with fail
   first|(go_region_with (first
    |(
     go_at_call 85;apply Calls.mono;apply HOX.out;(focus(repeat(first|exact Below.refl _ _|apply Qbe|apply Qbf)));rintro e2 w2 ⟨⟨v2,rfl,hv2⟩,hb2⟩;obtain⟨n2,a2',l2,c2',m2,o2,p2,rfl,hv2⟩:=hv2;(first
       |have HB2:Hid (Below wr.heap.size wr w2):=Hi hb2
       |have HB2:Hid (Below wr.heap.size wr w2):=Hi ((Below.refl _ _).drew.trans hb2)
       |have HB2:Hid (Below wr.heap.size wr w2):=Hi ((Below.refl _ _).drew.drew.trans hb2))
     have HV2:Hid (FracV w2 (.agg #[.bool n2,.slice a2' l2 c2',.slice m2 o2 p2]) p.2.1):=Hi ⟨n2,a2',l2,c2',m2,o2,p2,rfl,hv2⟩;clear hv2 hb2 t0 t1 t2 d1;have t0:=(HB2.out.cell (p:=⟨g,X*3,none⟩) hgl).trans HT0.out;have t1:=(HB2.out.cell (p:=⟨g,X*3+1,none⟩) hgl).trans HT1.out;have t2:=(HB2.out.cell (p:=⟨g,X*3+2,none⟩) hgl).trans HT2.out;have d1:=(HB2.out.cell (p:=⟨lb,lo+k*3+1,none⟩) hlb).trans HD1.out
     skip)
    |(
     go_at_call 148;apply Calls.mono;(first
       |exact Qbb (HZ.out.1.below HB2.out) HV2.out HZ.out.2.1 HFX.out (by omega)
       |exact Qbb (HZ.out.1.below HB2.out.drew) (HV2.out.below (Below.refl _ _).drew) HZ.out.2.1 HFX.out (by omega))
     rintro e3 w3 ⟨⟨v3,rfl,hv3⟩,hb3⟩;obtain⟨n3,a3',l3,c3',m3,o3,p3,rfl,hv3⟩:=hv3;(first
       |have HB3:Hid (Below wr.heap.size wr w3):=Hi (HB2.out.trans (hb3.mono HB2.out.size))
       |have HB3:Hid (Below wr.heap.size wr w3):=Hi (HB2.out.trans ((((Below.refl _ _).drew).trans hb3).mono HB2.out.size)))
     have HV3:Hid (FracV w3 (.agg #[.bool n3,.slice a3' l3 c3',.slice m3 o3 p3]) (z0.q - p.2.1)):=Hi ⟨n3,a3',l3,c3',m3,o3,p3,rfl,hv3⟩;have HQ3:=Hi (HQ.out.below HB3.out);clear hv3 hb3 t0 t1 t2 d1;have t0:=(HB3.out.cell (p:=⟨g,X*3,none⟩) hgl).trans HT0.out;have t1:=(HB3.out.cell (p:=⟨g,X*3+1,none⟩) hgl).trans HT1.out;have t2:=(HB3.out.cell (p:=⟨g,X*3+2,none⟩) hgl).trans HT2.out;have d1:=(HB3.out.cell (p:=⟨lb,lo+k*3+1,none⟩) hlb).trans HD1.out;have f0:=HQ3.out.blk.free (X*3);have f1:=HQ3.out.blk.free (X*3+1);have f2:=HQ3.out.blk.free (X*3+2)
     skip)
    |fail))|fail
   all_goals
    have hfx:Fits (z0.q - p.2.1) K:=by
     have h1:=HF.out (k+1) X;rw[Qft HP.out,←HX.out,agn_x,HX.out,←HZQ.out.1] at h1;exact h1
    obtain⟨us1,hus1⟩:∃us1,us.set X ⟨.bool n3,.slice a3' l3 c3',.slice m3 o3 p3,z0.q - p.2.1,K⟩=us1:=⟨_,rfl⟩;obtain⟨W3,hW3⟩:∃W3,((w3.setCell ⟨g,X*3,none⟩ (.bool n3)).setCell ⟨g,X*3+1,none⟩ (.slice a3' l3 c3')).setCell ⟨g,X*3+2,none⟩ (.slice m3 o3 p3)=W3:=⟨_,rfl⟩;have HQ1:Hid (QBlk W3 g us1):=Hi (by rw[←hW3,←hus1];exact Qfv HQ3.out (by have:=HU.out;omega) HV3.out hfx hK0);have HU1:Hid (us1.length=N):=Hi (by rw[←hus1,List.length_set];exact HU.out);have HUS1:Hid (∀(i:Nat) (t:FE),us1[i]?=some t→t.q=(if i=X then z0.q - p.2.1 else agn (vs.take k) i)∧t.k≤K):=Hi (fun i t ht=>by
     rw[←hus1] at ht;by_cases e:i=X
     ·
      subst e;rw[List.getElem?_set_self (by have:=HU.out;omega)] at ht;obtain rfl:=Option.some.inj ht;rw[if_pos rfl];exact⟨rfl,Nat.le_refl _⟩
     ·
      rw[List.getElem?_set_ne (Ne.symm e)] at ht;rw[if_neg e]
      exact HUS.out i t ht)
    have HBB:Hid (Below w.heap.size w W3):=Hi (by rw[←hW3];exact(((HB.out.trans (HB3.out.mono HB.out.size)).setCell (p:=⟨g,X*3,none⟩) hgw _).setCell (p:=⟨g,X*3+1,none⟩) hgw _).setCell (p:=⟨g,X*3+2,none⟩) hgw _);obtain⟨lb3,lo3,e3',hlb3,d0,d1,d2⟩:=(HLS.out.below HBB.out).load HLL.out;cases e3';have HZX:=Hi HZQ.out.1;have HW3:=Hi hW3;clear hfx hus1 hW3 t0 t1 t2 f0 f1 f2 d0 d1 HB2 HV2 HQ3 HB3 HV3;go_wp2_with fail;rw[HW3.out];obtain⟨z1,hz1⟩:∃z1,us1[Y]?=some z1:=⟨us1[Y]'(by have:=HU1.out;omega),List.getElem?_eq_getElem (by have:=HU1.out;omega)⟩;have HZ1:=Hi (HQ1.out.row.get hz1);have HZQ1:=Hi (HUS1.out _ _ hz1);obtain⟨gy,oy,hgy,_,t0,t1,t2⟩:=HQ1.out.row.at hz1;cases hgy;simp only[Nat.zero_add] at t0 t1 t2;have HT0:=Hi t0;have HT1:=Hi t1;have HT2:=Hi t2;have HD2:=Hi d2;have hgl3:=HQ1.out.blk.lt
    have HOX:=Hi (fun u (hu:Below W3.heap.size W3 u)=>Qfu ((HG.out.below HBB.out).below hu) HLP.out.y HLP.out.sy);have HFX:=Hi (HLP.out.y.fits (n:=1048576) (by have:=HLP.out.sy;simpa using this));have hzk:=HZQ1.out.2;clear hz1
    first|(go_region_with (first
     |(
      go_at_call 85;apply Calls.mono;apply HOX.out;(focus(repeat(first|exact Below.refl _ _|apply Qbe|apply Qbf)));rintro e2 w4 ⟨⟨v2,rfl,hv2⟩,hb2⟩;obtain⟨n2,a2',l2,c2',m2,o2,p2,rfl,hv2⟩:=hv2;(first
        |have HB2:Hid (Below W3.heap.size W3 w4):=Hi hb2
        |have HB2:Hid (Below W3.heap.size W3 w4):=Hi ((Below.refl _ _).drew.trans hb2)
        |have HB2:Hid (Below W3.heap.size W3 w4):=Hi ((Below.refl _ _).drew.drew.trans hb2))
      have HV2:Hid (FracV w4 (.agg #[.bool n2,.slice a2' l2 c2',.slice m2 o2 p2]) p.2.2):=Hi ⟨n2,a2',l2,c2',m2,o2,p2,rfl,hv2⟩;clear hv2 hb2 t0 t1 t2 d2;have t0:=(HB2.out.cell (p:=⟨g,Y*3,none⟩) hgl3).trans HT0.out;have t1:=(HB2.out.cell (p:=⟨g,Y*3+1,none⟩) hgl3).trans HT1.out;have t2:=(HB2.out.cell (p:=⟨g,Y*3+2,none⟩) hgl3).trans HT2.out;have d2:=(HB2.out.cell (p:=⟨lb,lo+k*3+2,none⟩) hlb3).trans HD2.out
      skip)
     |(
      go_at_call 148;apply Calls.mono;(first
        |exact Qbb (HZ1.out.1.below HB2.out) HV2.out HZ1.out.2.1 HFX.out (by omega)
        |exact Qbb (HZ1.out.1.below HB2.out.drew) (HV2.out.below (Below.refl _ _).drew) HZ1.out.2.1 HFX.out (by omega))
      rintro e3 w5 ⟨⟨v3,rfl,hv3⟩,hb3⟩;obtain⟨n5,a5,l5,c5,m5,o5,p5,rfl,hv3⟩:=hv3;(first
        |have HB5:Hid (Below W3.heap.size W3 w5):=Hi (HB2.out.trans (hb3.mono HB2.out.size))
        |have HB5:Hid (Below W3.heap.size W3 w5):=Hi (HB2.out.trans ((((Below.refl _ _).drew).trans hb3).mono HB2.out.size)))
      have HV5:Hid (FracV w5 (.agg #[.bool n5,.slice a5 l5 c5,.slice m5 o5 p5]) (z1.q - p.2.2)):=Hi ⟨n5,a5,l5,c5,m5,o5,p5,rfl,hv3⟩;have HQ5:=Hi (HQ1.out.below HB5.out);clear hv3 hb3 t0 t1 t2 d2;have t0:=(HB5.out.cell (p:=⟨g,Y*3,none⟩) hgl3).trans HT0.out;have t1:=(HB5.out.cell (p:=⟨g,Y*3+1,none⟩) hgl3).trans HT1.out;have t2:=(HB5.out.cell (p:=⟨g,Y*3+2,none⟩) hgl3).trans HT2.out;have d2:=(HB5.out.cell (p:=⟨lb,lo+k*3+2,none⟩) hlb3).trans HD2.out;have f0:=HQ5.out.blk.free (Y*3);have f1:=HQ5.out.blk.free (Y*3+1);have f2:=HQ5.out.blk.free (Y*3+2)
      skip)
     |fail))|fail
    all_goals
     have hfy:Fits (z1.q - p.2.2) K:=by
      have h1:=HF.out (k+1) Y;have h2:=HZQ1.out.1;rw[if_neg (Ne.symm hXY)] at h2;rw[Qft HP.out,←HY.out,agn_y,HY.out,←h2] at h1;exact h1
     have HFY:=Hi hfy;clear hfy t0 t1 t2 f0 f1 f2 d2;go_wp2_with fail;refine⟨⟨k+1,_,by omega,by go_num,by rw[List.length_set];exact HU1.out,Qfv HQ5.out (by have:=HU1.out;omega) HV5.out HFY.out hK0,fun i t ht=>?_,(((HBB.out.trans (HB5.out.mono HBB.out.size)).setCell (p:=⟨g,Y*3,none⟩) hgw _).setCell (p:=⟨g,Y*3+1,none⟩) hgw _).setCell (p:=⟨g,Y*3+2,none⟩) hgw _⟩,?_⟩
     ·
      rw[Qft HP.out];by_cases e:i=Y
      ·
       subst e;rw[List.getElem?_set_self (by have:=HU1.out;omega)] at ht;obtain rfl:=Option.some.inj ht;have h2:=HZQ1.out.1;rw[if_neg (Ne.symm hXY)] at h2;refine⟨?_,Nat.le_refl _⟩;rw[←HY.out,agn_y,HY.out,←h2]
      ·
       rw[List.getElem?_set_ne (Ne.symm e)] at ht;obtain⟨h3,h4⟩:=HUS1.out i t ht;refine⟨?_,h4⟩;by_cases e2:i=X
       ·
        subst e2;rw[if_pos rfl] at h3;rw[h3,←HX.out,agn_x,HX.out,HZX.out]
       · rw[if_neg e2] at h3
         rw[h3,Qje (by rw[HX.out];exact e2) (by rw[HY.out];exact e)]
     · simp[intOf]
       omega
  ·
   have hk':k=ls.length:=by omega
   subst hk';go_wp2;go_ret;refine⟨⟨g,N,us,HN.out.symm,rfl,HQ.out,HU.out,fun i t ht=>?_⟩,HB.out⟩;have:=HUS.out i t ht;rw[List.take_of_length_le (by have:=HVL.out;omega)] at this;exact this
end Go.Proofs.YtbbkamnfjejceaaGreatDoor
namespace Go.Proofs.YtbbkamnfjejceaaGreatDoor
open Go
set_option linter.unusedVariables false
section
variable {P:Program} {ops:Array Oper} {Q:Exit→Act→World→Prop} {md:Region.Mode} {S:World→Prop} {D:List Nat}
def NoneOf(D:List Nat)(listed:Array Bool):Prop:=∀d∈ D,listed.getD d true=false
theorem NoneOf.set{listed:Array Bool}{j:Nat}(h:NoneOf D listed)(hj:j ∉ D):NoneOf D (listed.setIfInBounds j true):=fun d hd=>by
 have hne:j≠d:=fun e=>hj (e ▸ hd)
 rw[_root_.Go.getD_set_ne true hne];exact h d hd
theorem NoneOf.back{listed:Array Bool}{j:Nat}(h:NoneOf D (listed.setIfInBounds j true)):j ∉ D∧NoneOf D listed:=by
 have hj:j ∉ D:=fun hd=>by
  have:=h j hd;simp at this
 refine⟨hj,fun d hd=>?_⟩;have hne:j≠d:=fun e=>hj (e ▸ hd)
 have:=h d hd;rw[_root_.Go.getD_set_ne true hne] at this;exact this
def AnyDs(P:Program)(md:Region.Mode)(ops:Array Oper)(Q:Exit→Act→World→Prop)(S:World→Prop)(D:List Nat):Nat→Array Bool→Act→World→Prop
 |0,listed,a,w=>Region.ready md ops listed= []∧Q .normal a w
 |fuel+1,listed,a,w=>(Region.ready md ops listed= []→Q .normal a w)∧∀i∈ Region.ready md ops listed,wpOp P ops Q i (fun a' w'=>(i ∉ D→NoneOf D listed→S w')∧AnyDs P md ops Q S D fuel (listed.setIfInBounds i true) a' w') a w
theorem AnyDs.any:∀(fuel:Nat) (listed:Array Bool) (a:Act) (w:World),AnyDs P md ops Q S D fuel listed a w→wpAny P md ops Q fuel listed a w
 |0,_,_,_,h=>h
 |fuel+1,_,_,_,h=>⟨h.1,fun i hi=>wpOp_mono (fun a' w' h'=>AnyDs.any fuel _ a' w' h'.2) (h.2 i hi)⟩
theorem Qfe{i j:Nat}{listed:Array Bool}{oj:Oper}(hr:i∈ Region.ready md ops listed)(hall:∀e∈ oj.after,Region.binds md e=true→listed.getD e.on false=true):∀e∈ oj.after,Region.binds md e=true→e.on≠i:=fun e he hb heq=>by
 have h1:=hall e he hb;have h0:=(mem_ready.1 hr).1;rw[heq] at h1;rcases Nat.lt_or_ge i listed.size with h'|h'
 · simp[h'] at h0 h1;rw[h0] at h1;cases h1
 · simp[Array.getElem?_eq_none h'] at h1
theorem AnyDs.first{i:Nat}{oi:Oper}{v:Value}(hi:ops[i]?=some oi)(hsel:∀(j:Nat) (o:Oper) cs b,ops[j]?=some o→o.op≠.select cs b)
 (hQ:∀c a w,Q (.panic c) (a.put oi.dst v) w→Q (.panic c) a w) (hk:D.all (fun k=>waits md ops k i)=true):
 ∀(fuel:Nat) (listed:Array Bool) (a:Act) (w:World),
  (∀j oj,ops[j]?=some oj→j≠i→listed.getD j true=false→(∀e∈ oj.after,Region.binds md e=true→e.on≠i)→oi.apart ops oj=true)→
  i∈ Region.ready md ops listed→YieldsIf P ops S oi v a→NoneOf D listed→S w→
  AnyDs P md ops Q S D fuel (listed.setIfInBounds i true) (a.put oi.dst v) w→AnyDs P md ops Q S D (fuel+1) listed a w:=by
 intro fuel
 induction fuel with
 |zero=>
  intro listed a w _ hr hy hN hS H;refine⟨fun h=>(by rw[h] at hr;cases hr),fun j hj=>?_⟩;by_cases hji:j=i
  · subst hji;exact hy.wpOp hi hS ⟨fun _ _=>hS,H⟩
  ·
   have:=ready_mono hj hji;rw[H.1] at this;cases this
 |succ fuel ih=>
  intro listed a w hfree hr hy hN hS H;refine⟨fun h=>(by rw[h] at hr;cases hr),fun j hj=>?_⟩;by_cases hji:j=i
  · subst hji;exact hy.wpOp hi hS ⟨fun _ _=>hS,H⟩
  ·
   have h1:=H.2 j (ready_mono hj hji);obtain⟨hjun,oj,hoj,hall⟩:=mem_ready.1 hj;have hnot:=Qfe (j:=j) hr hall;have hjk:j ∉ D:=fun e=>Qh8 (k:=j) (List.all_eq_true.1 hk j e) hoj hnot
   have hiD:NoneOf D (listed.setIfInBounds i true):=hN.set (fun e=>by
    obtain⟨_,oi',hoi',hall'⟩:=mem_ready.1 hr
    exact Qh8 (k:=i) (List.all_eq_true.1 hk i e) hoi' (Qfe (j:=i) hr hall'))
   have h2:=wpOp_putIf hoj (hfree j oj hoj hji hjun hnot) (fun cs b=>hsel i oi cs b hi) (fun cs b=>hsel j oj cs b hoj) hQ hy h1;have hfree':∀m om,ops[m]?=some om→m≠i→(listed.setIfInBounds j true).getD m true=false→
    (∀e∈ om.after,Region.binds md e=true→e.on≠i)→oi.apart ops om=true:=fun m om hm hmi hun hno=>by
    refine hfree m om hm hmi ?_ hno;by_cases hjm:j=m
    · subst hjm;exact hjun
    · rw[_root_.Go.getD_set_ne true hjm] at hun;exact hun
   refine wpOp_mono (fun a' w' h3=>⟨fun hj' _=>h3.2.1 hj' hiD,ih (listed.setIfInBounds j true) a' w' hfree' (ready_mono hr (Ne.symm hji)) h3.1 (hN.set hjk) (h3.2.1 hjk hiD) ?_⟩) h2;rw[Array.setIfInBounds_comm _ _ hji];exact h3.2.2
theorem AnyDs.firstP{i:Nat}{oi:Oper}{v:Value}(hi:ops[i]?=some oi)(hsel:∀(j:Nat) (o:Oper) cs b,ops[j]?=some o→o.op≠.select cs b)
 (hQ:∀c a w,Q (.panic c) (a.put oi.dst v) w→Q (.panic c) a w) (hiD:i ∉ D):
 ∀(fuel:Nat) (listed:Array Bool) (a:Act) (w:World),
  (∀j oj,ops[j]?=some oj→j≠i→listed.getD j true=false→(∀e∈ oj.after,Region.binds md e=true→e.on≠i)→oi.apart ops oj=true)→
  i∈ Region.ready md ops listed→YieldsIf P ops (fun _=>True) oi v a→(NoneOf D listed→S w)→
  AnyDs P md ops Q S D fuel (listed.setIfInBounds i true) (a.put oi.dst v) w→AnyDs P md ops Q S D (fuel+1) listed a w:=by
 intro fuel
 induction fuel with
 |zero=>
  intro listed a w _ hr hy hS H;refine⟨fun h=>(by rw[h] at hr;cases hr),fun j hj=>?_⟩;by_cases hji:j=i
  · subst hji;exact hy.wpOp hi trivial ⟨fun _=>hS,H⟩
  ·
   have:=ready_mono hj hji;rw[H.1] at this;cases this
 |succ fuel ih=>
  intro listed a w hfree hr hy hS H;refine⟨fun h=>(by rw[h] at hr;cases hr),fun j hj=>?_⟩;by_cases hji:j=i
  · subst hji;exact hy.wpOp hi trivial ⟨fun _=>hS,H⟩
  ·
   have h1:=H.2 j (ready_mono hj hji);obtain⟨hjun,oj,hoj,hall⟩:=mem_ready.1 hj;have hnot:=Qfe (j:=j) hr hall;have h2:=wpOp_putIf hoj (hfree j oj hoj hji hjun hnot) (fun cs b=>hsel i oi cs b hi) (fun cs b=>hsel j oj cs b hoj) hQ hy h1;have hfree':∀m om,ops[m]?=some om→m≠i→(listed.setIfInBounds j true).getD m true=false→
    (∀e∈ om.after,Region.binds md e=true→e.on≠i)→oi.apart ops om=true:=fun m om hm hmi hun hno=>by
    refine hfree m om hm hmi ?_ hno;by_cases hjm:j=m
    · subst hjm;exact hjun
    · rw[_root_.Go.getD_set_ne true hjm] at hun;exact hun
   refine wpOp_mono (fun a' w' h3=>⟨?_,ih (listed.setIfInBounds j true) a' w' hfree' (ready_mono hr (Ne.symm hji)) h3.1 ?_ ?_⟩) h2
   · intro hj' hN
     exact h3.2.1 hj' (hN.set hiD)
   · intro hN
     exact h3.2.1 hN.back.1 (hN.back.2.set hiD)
   · rw[Array.setIfInBounds_comm _ _ hji]
     exact h3.2.2
theorem Qom{listed:Array Bool}(h:D.all (fun d=>!(listed.getD d true))=true):NoneOf D listed:=fun d hd=>by
 have:=List.all_eq_true.1 h d hd
 simpa using this
theorem Qff{listed:Array Bool}{d:Nat}(hd:D.contains d=true)(h:listed.getD d true=true):¬NoneOf D listed:=fun hN=>by
 have:=hN d (by simpa using hd);rw[h] at this;cases this
theorem AnyDs.take{i:Nat}{oi:Oper}{v:Value}{fuel:Nat}{listed:Array Bool}{a:Act}{w:World}(hi:ops[i]?=some oi)
 (hs:Region.noSelect ops=true) (hf:Region.free md ops listed i=true) (hr:(Region.ready md ops listed).contains i=true) (hk:D.all (fun k=>waits md ops k i)=true) (hn:D.all (fun d=>!(listed.getD d true))=true)
 (hQ:∀c a w,Q (.panic c) (a.put oi.dst v) w→Q (.panic c) a w) (hy:YieldsIf P ops S oi v a) (hS:S w)
 (h:AnyDs P md ops Q S D fuel (listed.setIfInBounds i true) (a.put oi.dst v) w):AnyDs P md ops Q S D (fuel+1) listed a w:=
 AnyDs.first hi (Region.noSelect_spec hs) hQ hk fuel listed a w (Region.free_spec hi hf) (by simpa using hr) hy (Qom hn) hS h
theorem AnyDs.takeP{i:Nat}{oi:Oper}{v:Value}{fuel:Nat}{listed:Array Bool}{a:Act}{w:World}(hi:ops[i]?=some oi)
 (hs:Region.noSelect ops=true) (hf:Region.free md ops listed i=true) (hr:(Region.ready md ops listed).contains i=true) (hd:D.contains i=false)
 (hQ:∀c a w,Q (.panic c) (a.put oi.dst v) w→Q (.panic c) a w) (hy:YieldsIf P ops (fun _=>True) oi v a) (hS:NoneOf D listed→S w)
 (h:AnyDs P md ops Q S D fuel (listed.setIfInBounds i true) (a.put oi.dst v) w):AnyDs P md ops Q S D (fuel+1) listed a w:=
 AnyDs.firstP hi (Region.noSelect_spec hs) hQ (fun hm=>by rw[List.contains_iff_mem.2 hm] at hd;cases hd) fuel listed a w (Region.free_spec hi hf) (by simpa using hr) hy hS h
def AllDs(P:Program)(md:Region.Mode)(ops:Array Oper)(Q:Exit→Act→World→Prop)(S:World→Prop)(D:List Nat)(fuel:Nat)(listed:Array Bool)(a:Act)(w:World)(rs:List Nat):Prop:=
 ∀i∈ rs,wpOp P ops Q i (fun a' w'=>(i ∉ D→NoneOf D listed→S w')∧AnyDs P md ops Q S D fuel (listed.setIfInBounds i true) a' w') a w
theorem AllDs.nil{fuel:Nat}{listed:Array Bool}{a:Act}{w:World}:AllDs P md ops Q S D fuel listed a w []:=fun _ h=>by cases h
theorem AllDs.cons{fuel:Nat}{listed:Array Bool}{a:Act}{w:World}{i:Nat}{o:Oper}{rs:List Nat}(ho:ops[i]?=some o)
 (h:∀K':Act→World→Prop,Shut (∀a w,(i ∉ D→NoneOf D listed→S w)→AnyDs P md ops Q S D fuel (listed.setIfInBounds i true) a w→K' a w)→if Region.wanted o (yielded ops a.tmps)=true then Oper.wp P o a w K' Q else K' (a.put o.dst undef) w)
 (hs:AllDs P md ops Q S D fuel listed a w rs):AllDs P md ops Q S D fuel listed a w (i :: rs):=fun j hj=>by
 rcases List.mem_cons.1 hj with rfl|hj
 · exact wpOp_step ho (fun K' hK=>h K' (fun a w hS hW=>hK a w ⟨hS,hW⟩))
 · exact hs j hj
theorem AnyDs.ready{rs:List Nat}{fuel:Nat}{listed:Array Bool}{a:Act}{w:World}(hr:Region.ready md ops listed=rs)(hne:rs≠ [])
 (h:AllDs P md ops Q S D fuel listed a w rs):AnyDs P md ops Q S D (fuel+1) listed a w:=by
 refine⟨(fun h0=>by rw[hr] at h0;exact absurd h0 hne),fun j hj=>?_⟩;rw[hr] at hj;exact h j hj
theorem AnyDs.done{listed:Array Bool}{a:Act}{w:World}(hr:Region.ready md ops listed= [])(h:Q .normal a w):∀fuel,AnyDs P md ops Q S D fuel listed a w
 |0=>⟨hr,h⟩
 |_+1=>⟨fun _=>h,by rw[hr];simp⟩
theorem AnyDs.begin{id:Nat}{a:Act}{w:World}(hm:P.follows .mixedOrders=true)
 (h:AnyDs P .any ops Q S D ops.size (Array.replicate ops.size false) a w.drew):(Code.region id ops true).wp P Q a w:=
 wp_region_any hm (AnyDs.any _ _ _ _ h)
end
end Go.Proofs.YtbbkamnfjejceaaGreatDoor
