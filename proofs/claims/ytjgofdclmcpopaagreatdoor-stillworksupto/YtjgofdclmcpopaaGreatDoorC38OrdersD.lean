import Derived.Test.YtjgofdclmcpopaaGreatDoorC37StillC
namespace Go.Proofs.YtjgofdclmcpopaaGreatDoor
open Go.RowKit
open Go.Proofs.Tryz
set_option linter.unusedSimpArgs false
set_option linter.unusedVariables false
set_option maxHeartbeats 8000000
set_option maxRecDepth 1000000
def agnStep(v:Vec)(p:Nat × Rat × Rat):Vec:=upd (upd v (2*p.1) (v (2*p.1) - p.2.1)) (2*p.1+1) (v (2*p.1+1) - p.2.2)
def agn(vs:List (Nat × Rat × Rat)):Vec:=vs.foldl agnStep (fun _=>0)
theorem Qc8{vs:List (Nat × Rat × Rat)}{k:Nat}{p:Nat × Rat × Rat}(h:vs[k]?=some p):agn (vs.take (k+1))=agnStep (agn (vs.take k)) p:=by
 unfold agn;rw[List.take_add_one,h];simp[List.foldl_append]
theorem agn_x{v:Vec}{p:Nat × Rat × Rat}:agnStep v p (2*p.1)=v (2*p.1) - p.2.1:=by
 unfold agnStep;rw[Qaj _ _ (by omega),Qa2]
theorem agn_y{v:Vec}{p:Nat × Rat × Rat}:agnStep v p (2*p.1+1)=v (2*p.1+1) - p.2.2:=Qa2 _ _ _
theorem Qk5{v:Vec}{p:Nat × Rat × Rat}{i:Nat}(h1:i≠2*p.1)(h2:i≠2*p.1+1):agnStep v p i=v i:=by
 unfold agnStep;rw[Qaj _ _ h2,Qaj _ _ h1]
structure LoadV (n:Nat) (l:L3) (p:Nat × Rat × Rat):Prop where
 j:l.j=(p.1:Nat)
 lt:p.1<n
 x:QOf l.x.data.toList p.2.1
 y:QOf l.y.data.toList p.2.2
 sx:l.x.size<=1048576
 sy:l.y.size<=1048576
theorem Qek{s:ByteArray}{q:Rat}{w:World}(hg:Glob w)(hq:QOf s.data.toList q)(hs:s.size<=1048576):Calls prog 149 #[.string s] w (FNew w q):=by
 obtain⟨m,hm⟩:=hg.most;refine(Qjl s m w hm (by omega)).mono ?_;rintro e w' ⟨q',h1,h2⟩;rw[hq.inj h1];exact h2
theorem Qel{w:World}{g K i:Nat}{us:List FE}{x y z:Value}{q:Rat}(h:QBlk w g us)(hi:i<us.length)(hv:FracV w (.agg #[x,y,z]) q)(hf:Fits q K)(hK:0<K):QBlk (((w.setCell ⟨g,i*3,none⟩ x).setCell ⟨g,i*3+1,none⟩ y).setCell ⟨g,i*3+2,none⟩ z) g (us.set i ⟨x,y,z,q,K⟩):=
 h.set (k:=i) (e:=⟨x,y,z,q,K⟩) hi ⟨hv,hf,hK⟩
theorem Qum(a1 a2 a3 al:Option Addr)(c1 c2 c3 cl nj nb nh K:Nat)(ls:List L3)(vs:List (Nat × Rat × Rat))(w:World)(hg:Glob w)(hl:ARow L3.cells w al cl ls)(hll:ls.length<=1000)(hn:nj<=10)(hvl:vs.length=ls.length)(hlv:∀(i:Nat) (l:L3) (p:Nat × Rat × Rat),ls[i]?=some l->vs[i]?=some p->LoadV nj l p)
 (hK0:0<K) (hK:K+4194305<68719476000) (hfit:∀k i,Fits (agn (vs.take k) i) K):
 Calls prog 133 #[.agg #[.slice a1 nj c1,.slice a2 nb c2,.slice a3 nh c3],.slice al ls.length cl] w fun e w'=>(∃(g N:Nat) (us:List FE),N=2*nj/\e=.returned (.slice (some ⟨g,0,none⟩) N N)/\QBlk w' g us/\us.length=N/\∀(i:Nat) (t:FE),us[i]?=some t->t.q=agn vs i/\t.k<=K)/\Below w.heap.size w w':=by
 obtain⟨HG,HLS,HVL,HLV,HF⟩:=Id hg hl hvl hlv hfit;obtain⟨N,hN⟩:=nm (2*nj);have hmk:=fun w=>Qci N (by omega) w
 obtain⟨MC,hMC⟩:=nm (((List.replicate N FE.zero).flatMap FE.cells).toArray);rw[hMC] at hmk;have HMC:=Hi hMC.symm;have hNi:2*(nj:Int)=(N:Int):=by omega
 have HWY:=Hi (fun u=>Qej a1 a2 a3 c1 c2 c3 nj nb nh u hn);simp only[hNi] at HWY;have HN:=Hi hN;clear hN hNi;clear hg hl hvl hlv hfit hMC;go_enter func133,ntmps133;go_wp2_with fail;go_fit (HWY.o _);rintro e w1 ⟨rfl,hb1⟩;have HB1:O (Below w.heap.size w w1):=Hi ((bR.alloc lZ _).trans (hb1.mono (by simp)));clear hb1;obtain⟨g,hg⟩:=nm w1.heap.size;obtain⟨V,hV⟩:=nm (w1.alloc (.cells MC 128));have hgw:w.heap.size<=g:=by rw[<-hg];exact HB1.o.size
 have HB0:O (Below w.heap.size w V):=Hi (by rw[<-hV];exact HB1.o.alloc HB1.o.size _);have HQ0:O (QBlk V g (List.replicate N FE.zero)):=Hi (by rw[<-hV,<-hg];exact QBlk.new w1 N MC HMC.o);have HV:=Hi hV;clear hV;go_wp2_with fail;rw[HV.o]
 try rw[hg]
 clear hmk;go_loopw [14] (fun i wr=>∃(k:Nat) (us:List FE),k<=ls.length/\i=.int .i64 k/\us.length=N/\QBlk wr g us/\(∀(i:Nat) (t:FE),us[i]?=some t->t.q=agn (vs.take k) i/\t.k<=K)/\Below w.heap.size w wr) (fun i _=>ls.length - (intOf i).toNat)
 case atStart=>
  refine⟨0,_,Nat.zero_le _,rfl,by simp,HQ0.o,fun i t ht=>?_,HB0.o⟩;obtain⟨_,rfl⟩:=List.mem_replicate.1 (mO ht);exact⟨rfl,hK0⟩
 case round=>
  obtain⟨k,us,hk,rfl,hul,hqb,hus,hb⟩:=hrel;obtain⟨HU,HQ,HUS,HB⟩:=Ic hul hqb hus hb;clear hul hqb hus hb;by_cases hlt:k<ls.length
  .
   obtain⟨l,hl⟩:∃l,ls[k]?=some l:=⟨ls[k],gE hlt⟩;obtain⟨p,hp⟩:∃p,vs[k]?=some p:=⟨vs[k]'(by have:=HVL.o;omega),gE (by have:=HVL.o;omega)⟩;have hlp:=HLV.o k l p hl hp;obtain⟨lb,lo,rfl,hlb,d0,d1,d2⟩:=(HLS.o.below HB.o).load hl;obtain⟨lb',lo',e',hlw,_⟩:=HLS.o.load hl;cases e';rw[hlp.j] at d0;have hne:lb≠g:=by omega
   have hne':=hne.symm;obtain⟨X,hX⟩:=nm (2*p.1);obtain⟨Y,hY⟩:=nm (2*p.1+1);have hXi:2*(p.1:Int)=(X:Int):=by omega
   have hYi:2*(p.1:Int)+1=(Y:Int):=by omega
   have hlt2:=hlp.lt;have hXN:X<N:=by have:=HN.o;omega
   have hYN:Y<N:=by have:=HN.o;omega
   obtain⟨HRX,HRY⟩:=Ia (fun u=>Qc6 p.1 u (by omega)) (fun u=>Qc7 p.1 u (by omega));simp only[hYi] at HRY;simp only[hXi] at HRX;have hXY:X≠Y:=by omega
   obtain⟨HX,HY,HP,HLP⟩:=Ic hX hY hp hlp;have q1:((k:Int)<(ls.length:Int)):=by omega
   have q2:((X:Int)<(N:Int)):=by omega
   have q3:((Y:Int)<(N:Int)):=by omega
   have HLL:=Hi hl;clear hl hp hlp hX hY hXi hYi hlt2;go_wp2_with fail;go_region_held3 (fun v=>v.cell? ⟨lb,lo+k*3,none⟩=some (.int .i64 (p.1:Nat))) ((first|(simp [*];done)|go_keep)) (first
    |(
     go_at_call 197;apply cM;apply HRX.o
     rintro e2 w2 ⟨rfl,rfl⟩)
    |(
     go_at_call 198;apply cM;apply HRY.o
     rintro e2 w2 ⟨rfl,rfl⟩)
    |fail)
   obtain⟨z0,hz0⟩:∃z0,us[X]?=some z0:=⟨us[X]'(by have:=HU.o;omega),gE (by have:=HU.o;omega)⟩;obtain⟨HZ,HZQ⟩:=Ia (HQ.o.row.get hz0) (HUS.o _ _ hz0);obtain⟨gy,oy,hgy,_,t0,t1,t2⟩:=HQ.o.row.at hz0;cases hgy;simp only[Nat.zero_add] at t0 t1 t2;obtain⟨HT0,HT1,HT2,HD1⟩:=Ic t0 t1 t2 d1;have hgl:=HQ.o.blk.lt;obtain⟨HOX,HFX⟩:=Ia (fun u (hu:Below wr.heap.size wr u)=>Qek ((HG.o.below HB.o).below hu) HLP.o.x HLP.o.sx) (HLP.o.x.fits (n:=1048576) (by have:=HLP.o.sx;simpa using this));have hzk:=HZQ.o.2;clear hz0;go_wp2_with fail
   first|(go_region_with (first
    |(
     go_at_call 149;apply cM;apply HOX.o;(focus(repeat(first|exact Below.refl _ _|apply Qbi|apply Qbj)));rintro e2 w2 ⟨⟨v2,rfl,hv2⟩,hb2⟩;obtain⟨n2,a2',l2,c2',m2,o2,p2,rfl,hv2⟩:=hv2;(first
       |have HB2:O (Below wr.heap.size wr w2):=Hi hb2
       |have HB2:O (Below wr.heap.size wr w2):=Hi (bR.drew.trans hb2)
       |have HB2:O (Below wr.heap.size wr w2):=Hi (bR.drew.drew.trans hb2))
     have HV2:O (FracV w2 (.agg #[.bool n2,.slice a2' l2 c2',.slice m2 o2 p2]) p.2.1):=Hi ⟨n2,a2',l2,c2',m2,o2,p2,rfl,hv2⟩;clear hv2 hb2 t0 t1 t2 d1;obtain⟨t0,t1,t2⟩:=Jb HB2.o hgl HT0.o HT1.o HT2.o;have d1:=ce HB2.o hlb HD1.o
     skip)
    |(
     go_at_call 205;apply cM;(first
       |exact Qbe (HZ.o.1.below HB2.o) HV2.o HZ.o.2.1 HFX.o (by omega)
       |exact Qbe (HZ.o.1.below HB2.o.drew) (HV2.o.below bR.drew) HZ.o.2.1 HFX.o (by omega))
     rintro e3 w3 ⟨⟨v3,rfl,hv3⟩,hb3⟩;obtain⟨n3,a3',l3,c3',m3,o3,p3,rfl,hv3⟩:=hv3;(first
       |have HB3:O (Below wr.heap.size wr w3):=Hi (HB2.o.trans (hb3.mono HB2.o.size))
       |have HB3:O (Below wr.heap.size wr w3):=Hi (HB2.o.trans (((bR.drew).trans hb3).mono HB2.o.size)))
     have HV3:O (FracV w3 (.agg #[.bool n3,.slice a3' l3 c3',.slice m3 o3 p3]) (z0.q - p.2.1)):=Hi ⟨n3,a3',l3,c3',m3,o3,p3,rfl,hv3⟩;have HQ3:=Hi (HQ.o.below HB3.o);clear hv3 hb3 t0 t1 t2 d1;obtain⟨t0,t1,t2⟩:=Jb HB3.o hgl HT0.o HT1.o HT2.o;have d1:=ce HB3.o hlb HD1.o;have f0:=HQ3.o.blk.free (X*3);have f1:=HQ3.o.blk.free (X*3+1);have f2:=HQ3.o.blk.free (X*3+2)
     skip)
    |fail))|fail
   all_goals
    have hfx:Fits (z0.q - p.2.1) K:=by
     have h1:=HF.o (k+1) X;rw[Qc8 HP.o,<-HX.o,agn_x,HX.o,<-HZQ.o.1] at h1;exact h1
    obtain⟨us1,hus1⟩:=nm (us.set X ⟨.bool n3,.slice a3' l3 c3',.slice m3 o3 p3,z0.q - p.2.1,K⟩);obtain⟨W3,hW3⟩:=nm (((w3.setCell ⟨g,X*3,none⟩ (.bool n3)).setCell ⟨g,X*3+1,none⟩ (.slice a3' l3 c3')).setCell ⟨g,X*3+2,none⟩ (.slice m3 o3 p3));have HQ1:O (QBlk W3 g us1):=Hi (by rw[<-hW3,<-hus1];exact Qel HQ3.o (by have:=HU.o;omega) HV3.o hfx hK0);have HU1:O (us1.length=N):=Hi (by rw[<-hus1,List.length_set];exact HU.o);have HUS1:O (∀(i:Nat) (t:FE),us1[i]?=some t->t.q=(if i=X then z0.q - p.2.1 else agn (vs.take k) i)/\t.k<=K):=Hi (fun i t ht=>by
     rw[<-hus1] at ht;by_cases e:i=X
     .
      subst e;rw[List.getElem?_set_self (by have:=HU.o;omega)] at ht;obtain rfl:=Option.some.inj ht;rw[if_pos rfl];exact⟨rfl,Nat.le_refl _⟩
     .
      rw[List.getElem?_set_ne (Ne.symm e)] at ht;rw[if_neg e]
      exact HUS.o i t ht)
    have HBB:O (Below w.heap.size w W3):=Hi (by rw[<-hW3];exact(((HB.o.trans (HB3.o.mono HB.o.size)).setCell (p:=⟨g,X*3,none⟩) hgw _).setCell (p:=⟨g,X*3+1,none⟩) hgw _).setCell (p:=⟨g,X*3+2,none⟩) hgw _);obtain⟨lb3,lo3,e3',hlb3,d0,d1,d2⟩:=(HLS.o.below HBB.o).load HLL.o;cases e3';obtain⟨HZX,HW3⟩:=Ia HZQ.o.1 hW3;clear hfx hus1 hW3 t0 t1 t2 f0 f1 f2 d0 d1 HB2 HV2 HQ3 HB3 HV3;go_wp2_with fail;rw[HW3.o];obtain⟨z1,hz1⟩:∃z1,us1[Y]?=some z1:=⟨us1[Y]'(by have:=HU1.o;omega),gE (by have:=HU1.o;omega)⟩;obtain⟨HZ1,HZQ1⟩:=Ia (HQ1.o.row.get hz1) (HUS1.o _ _ hz1);obtain⟨gy,oy,hgy,_,t0,t1,t2⟩:=HQ1.o.row.at hz1;cases hgy;simp only[Nat.zero_add] at t0 t1 t2;obtain⟨HT0,HT1,HT2,HD2⟩:=Ic t0 t1 t2 d2;have hgl3:=HQ1.o.blk.lt
    obtain⟨HOX,HFX⟩:=Ia (fun u (hu:Below W3.heap.size W3 u)=>Qek ((HG.o.below HBB.o).below hu) HLP.o.y HLP.o.sy) (HLP.o.y.fits (n:=1048576) (by have:=HLP.o.sy;simpa using this));have hzk:=HZQ1.o.2;clear hz1
    first|(go_region_with (first
     |(
      go_at_call 149;apply cM;apply HOX.o;(focus(repeat(first|exact Below.refl _ _|apply Qbi|apply Qbj)));rintro e2 w4 ⟨⟨v2,rfl,hv2⟩,hb2⟩;obtain⟨n2,a2',l2,c2',m2,o2,p2,rfl,hv2⟩:=hv2;(first
        |have HB2:O (Below W3.heap.size W3 w4):=Hi hb2
        |have HB2:O (Below W3.heap.size W3 w4):=Hi (bR.drew.trans hb2)
        |have HB2:O (Below W3.heap.size W3 w4):=Hi (bR.drew.drew.trans hb2))
      have HV2:O (FracV w4 (.agg #[.bool n2,.slice a2' l2 c2',.slice m2 o2 p2]) p.2.2):=Hi ⟨n2,a2',l2,c2',m2,o2,p2,rfl,hv2⟩;clear hv2 hb2 t0 t1 t2 d2;obtain⟨t0,t1,t2⟩:=Jb HB2.o hgl3 HT0.o HT1.o HT2.o;have d2:=ce HB2.o hlb3 HD2.o
      skip)
     |(
      go_at_call 205;apply cM;(first
        |exact Qbe (HZ1.o.1.below HB2.o) HV2.o HZ1.o.2.1 HFX.o (by omega)
        |exact Qbe (HZ1.o.1.below HB2.o.drew) (HV2.o.below bR.drew) HZ1.o.2.1 HFX.o (by omega))
      rintro e3 w5 ⟨⟨v3,rfl,hv3⟩,hb3⟩;obtain⟨n5,a5,l5,c5,m5,o5,p5,rfl,hv3⟩:=hv3;(first
        |have HB5:O (Below W3.heap.size W3 w5):=Hi (HB2.o.trans (hb3.mono HB2.o.size))
        |have HB5:O (Below W3.heap.size W3 w5):=Hi (HB2.o.trans (((bR.drew).trans hb3).mono HB2.o.size)))
      have HV5:O (FracV w5 (.agg #[.bool n5,.slice a5 l5 c5,.slice m5 o5 p5]) (z1.q - p.2.2)):=Hi ⟨n5,a5,l5,c5,m5,o5,p5,rfl,hv3⟩;have HQ5:=Hi (HQ1.o.below HB5.o);clear hv3 hb3 t0 t1 t2 d2;obtain⟨t0,t1,t2⟩:=Jb HB5.o hgl3 HT0.o HT1.o HT2.o;have d2:=ce HB5.o hlb3 HD2.o;have f0:=HQ5.o.blk.free (Y*3);have f1:=HQ5.o.blk.free (Y*3+1);have f2:=HQ5.o.blk.free (Y*3+2)
      skip)
     |fail))|fail
    all_goals
     have hfy:Fits (z1.q - p.2.2) K:=by
      have h1:=HF.o (k+1) Y;have h2:=HZQ1.o.1;rw[if_neg (Ne.symm hXY)] at h2;rw[Qc8 HP.o,<-HY.o,agn_y,HY.o,<-h2] at h1;exact h1
     have HFY:=Hi hfy;clear hfy t0 t1 t2 f0 f1 f2 d2;go_wp2_with fail;refine⟨⟨k+1,_,by omega,by go_num,by rw[List.length_set];exact HU1.o,Qel HQ5.o (by have:=HU1.o;omega) HV5.o HFY.o hK0,fun i t ht=>?_,(((HBB.o.trans (HB5.o.mono HBB.o.size)).setCell (p:=⟨g,Y*3,none⟩) hgw _).setCell (p:=⟨g,Y*3+1,none⟩) hgw _).setCell (p:=⟨g,Y*3+2,none⟩) hgw _⟩,?_⟩
     .
      rw[Qc8 HP.o];by_cases e:i=Y
      .
       subst e;rw[List.getElem?_set_self (by have:=HU1.o;omega)] at ht;obtain rfl:=Option.some.inj ht;have h2:=HZQ1.o.1;rw[if_neg (Ne.symm hXY)] at h2;refine⟨?_,Nat.le_refl _⟩;rw[<-HY.o,agn_y,HY.o,<-h2]
      .
       rw[List.getElem?_set_ne (Ne.symm e)] at ht;obtain⟨h3,h4⟩:=HUS1.o i t ht;refine⟨?_,h4⟩;by_cases e2:i=X
       .
        subst e2;rw[if_pos rfl] at h3;rw[h3,<-HX.o,agn_x,HX.o,HZX.o]
       . rw[if_neg e2] at h3
         rw[h3,Qk5 (by rw[HX.o];exact e2) (by rw[HY.o];exact e)]
     . simp[intOf]
       omega
  .
   have hk':k=ls.length:=by omega
   subst hk';go_wp2;go_ret;refine⟨⟨g,N,us,HN.o.symm,rfl,HQ.o,HU.o,fun i t ht=>?_⟩,HB.o⟩;have:=HUS.o i t ht;rw[List.take_of_length_le (by have:=HVL.o;omega)] at this;exact this
end Go.Proofs.YtjgofdclmcpopaaGreatDoor
namespace Go.Proofs.YtjgofdclmcpopaaGreatDoor
open Go
open Go.Proofs.Tryz
set_option linter.unusedSimpArgs false
set_option linter.unusedVariables false
set_option maxHeartbeats 8000000
set_option maxRecDepth 1000000
section
variable {P:Program} {ops:Array Oper} {Q:Exit->Act->World->Prop} {md:Region.Mode} {S:World->Prop} {D:List Nat}
def NoneOf(D:List Nat)(listed:Array Bool):Prop:=∀d∈ D,listed.getD d true=false
theorem NoneOf.set{listed:Array Bool}{j:Nat}(h:NoneOf D listed)(hj:j ∉ D):NoneOf D (listed.setIfInBounds j true):=fun d hd=>by
 have hne:j≠d:=fun e=>hj (e ▸ hd)
 rw[_root_.Go.getD_set_ne true hne];exact h d hd
theorem NoneOf.back{listed:Array Bool}{j:Nat}(h:NoneOf D (listed.setIfInBounds j true)):j ∉ D/\NoneOf D listed:=by
 have hj:j ∉ D:=fun hd=>by
  have:=h j hd;simp at this
 refine⟨hj,fun d hd=>?_⟩;have hne:j≠d:=fun e=>hj (e ▸ hd)
 have:=h d hd;rw[_root_.Go.getD_set_ne true hne] at this;exact this
def AnyDs(P:Program)(md:Region.Mode)(ops:Array Oper)(Q:Exit->Act->World->Prop)(S:World->Prop)(D:List Nat):Nat->Array Bool->Act->World->Prop
 |0,listed,a,w=>Region.ready md ops listed= []/\Q .normal a w
 |fuel+1,listed,a,w=>(Region.ready md ops listed= []->Q .normal a w)/\∀i∈ Region.ready md ops listed,wpOp P ops Q i (fun a' w'=>(i ∉ D->NoneOf D listed->S w')/\AnyDs P md ops Q S D fuel (listed.setIfInBounds i true) a' w') a w
theorem AnyDs.any:∀(fuel:Nat) (listed:Array Bool) (a:Act) (w:World),AnyDs P md ops Q S D fuel listed a w->wpAny P md ops Q fuel listed a w
 |0,_,_,_,h=>h
 |fuel+1,_,_,_,h=>⟨h.1,fun i hi=>wpOp_mono (fun a' w' h'=>AnyDs.any fuel _ a' w' h'.2) (h.2 i hi)⟩
theorem Qf7{i j:Nat}{listed:Array Bool}{oj:Oper}(hr:i∈ Region.ready md ops listed)(hall:∀e∈ oj.after,Region.binds md e=true->listed.getD e.on false=true):∀e∈ oj.after,Region.binds md e=true->e.on≠i:=fun e he hb heq=>by
 have h1:=hall e he hb;have h0:=(mem_ready.1 hr).1;rw[heq] at h1;rcases Nat.lt_or_ge i listed.size with h'|h'
 . simp[h'] at h0 h1;rw[h0] at h1;cases h1
 . simp[Array.getElem?_eq_none h'] at h1
theorem AnyDs.first{i:Nat}{oi:Oper}{v:Value}(hi:ops[i]?=some oi)(hsel:∀(j:Nat) (o:Oper) cs b,ops[j]?=some o->o.op≠.select cs b)
 (hQ:∀c a w,Q (.panic c) (a.put oi.dst v) w->Q (.panic c) a w) (hk:D.all (fun k=>waits md ops k i)=true):
 ∀(fuel:Nat) (listed:Array Bool) (a:Act) (w:World),
  (∀j oj,ops[j]?=some oj->j≠i->listed.getD j true=false->(∀e∈ oj.after,Region.binds md e=true->e.on≠i)->oi.apart ops oj=true)->
  i∈ Region.ready md ops listed->YieldsIf P ops S oi v a->NoneOf D listed->S w->
  AnyDs P md ops Q S D fuel (listed.setIfInBounds i true) (a.put oi.dst v) w->AnyDs P md ops Q S D (fuel+1) listed a w:=by
 intro fuel
 induction fuel with
 |zero=>
  intro listed a w _ hr hy hN hS H;refine⟨fun h=>(by rw[h] at hr;cases hr),fun j hj=>?_⟩;by_cases hji:j=i
  . subst hji;exact hy.wpOp hi hS ⟨fun _ _=>hS,H⟩
  .
   have:=ready_mono hj hji;rw[H.1] at this;cases this
 |succ fuel ih=>
  intro listed a w hfree hr hy hN hS H;refine⟨fun h=>(by rw[h] at hr;cases hr),fun j hj=>?_⟩;by_cases hji:j=i
  . subst hji;exact hy.wpOp hi hS ⟨fun _ _=>hS,H⟩
  .
   have h1:=H.2 j (ready_mono hj hji);obtain⟨hjun,oj,hoj,hall⟩:=mem_ready.1 hj;have hnot:=Qf7 (j:=j) hr hall;have hjk:j ∉ D:=fun e=>Qf6 (k:=j) (List.all_eq_true.1 hk j e) hoj hnot
   have hiD:NoneOf D (listed.setIfInBounds i true):=hN.set (fun e=>by
    obtain⟨_,oi',hoi',hall'⟩:=mem_ready.1 hr
    exact Qf6 (k:=i) (List.all_eq_true.1 hk i e) hoi' (Qf7 (j:=i) hr hall'))
   have h2:=wpOp_putIf hoj (hfree j oj hoj hji hjun hnot) (fun cs b=>hsel i oi cs b hi) (fun cs b=>hsel j oj cs b hoj) hQ hy h1;have hfree':∀m om,ops[m]?=some om->m≠i->(listed.setIfInBounds j true).getD m true=false->
    (∀e∈ om.after,Region.binds md e=true->e.on≠i)->oi.apart ops om=true:=fun m om hm hmi hun hno=>by
    refine hfree m om hm hmi ?_ hno;by_cases hjm:j=m
    . subst hjm;exact hjun
    . rw[_root_.Go.getD_set_ne true hjm] at hun;exact hun
   refine wpOp_mono (fun a' w' h3=>⟨fun hj' _=>h3.2.1 hj' hiD,ih (listed.setIfInBounds j true) a' w' hfree' (ready_mono hr (Ne.symm hji)) h3.1 (hN.set hjk) (h3.2.1 hjk hiD) ?_⟩) h2;rw[Array.setIfInBounds_comm _ _ hji];exact h3.2.2
theorem AnyDs.firstP{i:Nat}{oi:Oper}{v:Value}(hi:ops[i]?=some oi)(hsel:∀(j:Nat) (o:Oper) cs b,ops[j]?=some o->o.op≠.select cs b)
 (hQ:∀c a w,Q (.panic c) (a.put oi.dst v) w->Q (.panic c) a w) (hiD:i ∉ D):
 ∀(fuel:Nat) (listed:Array Bool) (a:Act) (w:World),
  (∀j oj,ops[j]?=some oj->j≠i->listed.getD j true=false->(∀e∈ oj.after,Region.binds md e=true->e.on≠i)->oi.apart ops oj=true)->
  i∈ Region.ready md ops listed->YieldsIf P ops (fun _=>True) oi v a->(NoneOf D listed->S w)->
  AnyDs P md ops Q S D fuel (listed.setIfInBounds i true) (a.put oi.dst v) w->AnyDs P md ops Q S D (fuel+1) listed a w:=by
 intro fuel
 induction fuel with
 |zero=>
  intro listed a w _ hr hy hS H;refine⟨fun h=>(by rw[h] at hr;cases hr),fun j hj=>?_⟩;by_cases hji:j=i
  . subst hji;exact hy.wpOp hi trivial ⟨fun _=>hS,H⟩
  .
   have:=ready_mono hj hji;rw[H.1] at this;cases this
 |succ fuel ih=>
  intro listed a w hfree hr hy hS H;refine⟨fun h=>(by rw[h] at hr;cases hr),fun j hj=>?_⟩;by_cases hji:j=i
  . subst hji;exact hy.wpOp hi trivial ⟨fun _=>hS,H⟩
  .
   have h1:=H.2 j (ready_mono hj hji);obtain⟨hjun,oj,hoj,hall⟩:=mem_ready.1 hj;have hnot:=Qf7 (j:=j) hr hall;have h2:=wpOp_putIf hoj (hfree j oj hoj hji hjun hnot) (fun cs b=>hsel i oi cs b hi) (fun cs b=>hsel j oj cs b hoj) hQ hy h1;have hfree':∀m om,ops[m]?=some om->m≠i->(listed.setIfInBounds j true).getD m true=false->
    (∀e∈ om.after,Region.binds md e=true->e.on≠i)->oi.apart ops om=true:=fun m om hm hmi hun hno=>by
    refine hfree m om hm hmi ?_ hno;by_cases hjm:j=m
    . subst hjm;exact hjun
    . rw[_root_.Go.getD_set_ne true hjm] at hun;exact hun
   refine wpOp_mono (fun a' w' h3=>⟨?_,ih (listed.setIfInBounds j true) a' w' hfree' (ready_mono hr (Ne.symm hji)) h3.1 ?_ ?_⟩) h2
   . intro hj' hN
     exact h3.2.1 hj' (hN.set hiD)
   . intro hN
     exact h3.2.1 hN.back.1 (hN.back.2.set hiD)
   . rw[Array.setIfInBounds_comm _ _ hji]
     exact h3.2.2
theorem Qq7{listed:Array Bool}(h:D.all (fun d=>!(listed.getD d true))=true):NoneOf D listed:=fun d hd=>by
 have:=List.all_eq_true.1 h d hd
 simpa using this
theorem Qf8{listed:Array Bool}{d:Nat}(hd:D.contains d=true)(h:listed.getD d true=true):¬NoneOf D listed:=fun hN=>by
 have:=hN d (by simpa using hd);rw[h] at this;cases this
theorem AnyDs.take{i:Nat}{oi:Oper}{v:Value}{fuel:Nat}{listed:Array Bool}{a:Act}{w:World}(hi:ops[i]?=some oi)
 (hs:Region.noSelect ops=true) (hf:Region.free md ops listed i=true) (hr:(Region.ready md ops listed).contains i=true) (hk:D.all (fun k=>waits md ops k i)=true) (hn:D.all (fun d=>!(listed.getD d true))=true)
 (hQ:∀c a w,Q (.panic c) (a.put oi.dst v) w->Q (.panic c) a w) (hy:YieldsIf P ops S oi v a) (hS:S w)
 (h:AnyDs P md ops Q S D fuel (listed.setIfInBounds i true) (a.put oi.dst v) w):AnyDs P md ops Q S D (fuel+1) listed a w:=
 AnyDs.first hi (Region.noSelect_spec hs) hQ hk fuel listed a w (Region.free_spec hi hf) (by simpa using hr) hy (Qq7 hn) hS h
theorem AnyDs.takeP{i:Nat}{oi:Oper}{v:Value}{fuel:Nat}{listed:Array Bool}{a:Act}{w:World}(hi:ops[i]?=some oi)
 (hs:Region.noSelect ops=true) (hf:Region.free md ops listed i=true) (hr:(Region.ready md ops listed).contains i=true) (hd:D.contains i=false)
 (hQ:∀c a w,Q (.panic c) (a.put oi.dst v) w->Q (.panic c) a w) (hy:YieldsIf P ops (fun _=>True) oi v a) (hS:NoneOf D listed->S w)
 (h:AnyDs P md ops Q S D fuel (listed.setIfInBounds i true) (a.put oi.dst v) w):AnyDs P md ops Q S D (fuel+1) listed a w:=
 AnyDs.firstP hi (Region.noSelect_spec hs) hQ (fun hm=>by rw[List.contains_iff_mem.2 hm] at hd;cases hd) fuel listed a w (Region.free_spec hi hf) (by simpa using hr) hy hS h
def AllDs(P:Program)(md:Region.Mode)(ops:Array Oper)(Q:Exit->Act->World->Prop)(S:World->Prop)(D:List Nat)(fuel:Nat)(listed:Array Bool)(a:Act)(w:World)(rs:List Nat):Prop:=
 ∀i∈ rs,wpOp P ops Q i (fun a' w'=>(i ∉ D->NoneOf D listed->S w')/\AnyDs P md ops Q S D fuel (listed.setIfInBounds i true) a' w') a w
theorem AllDs.nil{fuel:Nat}{listed:Array Bool}{a:Act}{w:World}:AllDs P md ops Q S D fuel listed a w []:=fun _ h=>by cases h
theorem AllDs.cons{fuel:Nat}{listed:Array Bool}{a:Act}{w:World}{i:Nat}{o:Oper}{rs:List Nat}(ho:ops[i]?=some o)
 (h:∀K':Act->World->Prop,Shut (∀a w,(i ∉ D->NoneOf D listed->S w)->AnyDs P md ops Q S D fuel (listed.setIfInBounds i true) a w->K' a w)->if Region.wanted o (yielded ops a.tmps)=true then Oper.wp P o a w K' Q else K' (a.put o.dst undef) w)
 (hs:AllDs P md ops Q S D fuel listed a w rs):AllDs P md ops Q S D fuel listed a w (i :: rs):=fun j hj=>by
 rcases List.mem_cons.1 hj with rfl|hj
 . exact wpOp_step ho (fun K' hK=>h K' (fun a w hS hW=>hK a w ⟨hS,hW⟩))
 . exact hs j hj
theorem AnyDs.ready{rs:List Nat}{fuel:Nat}{listed:Array Bool}{a:Act}{w:World}(hr:Region.ready md ops listed=rs)(hne:rs≠ [])
 (h:AllDs P md ops Q S D fuel listed a w rs):AnyDs P md ops Q S D (fuel+1) listed a w:=by
 refine⟨(fun h0=>by rw[hr] at h0;exact absurd h0 hne),fun j hj=>?_⟩;rw[hr] at hj;exact h j hj
theorem AnyDs.done{listed:Array Bool}{a:Act}{w:World}(hr:Region.ready md ops listed= [])(h:Q .normal a w):∀fuel,AnyDs P md ops Q S D fuel listed a w
 |0=>⟨hr,h⟩
 |_+1=>⟨fun _=>h,by rw[hr];simp⟩
theorem AnyDs.begin{id:Nat}{a:Act}{w:World}(hm:P.follows .mixedOrders=true)
 (h:AnyDs P .any ops Q S D ops.size (Array.replicate ops.size false) a w.drew):(Code.region id ops true).wp P Q a w:=
 wp_region_any hm (AnyDs.any _ _ _ _ h)
end
end Go.Proofs.YtjgofdclmcpopaaGreatDoor
