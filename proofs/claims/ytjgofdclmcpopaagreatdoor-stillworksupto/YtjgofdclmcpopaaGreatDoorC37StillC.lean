import Derived.Test.YtjgofdclmcpopaaGreatDoorC35RowsO
namespace Go.Proofs.YtjgofdclmcpopaaGreatDoor
open Go.RowKit
open Go.Proofs.Tryz
set_option linter.unusedSimpArgs false
set_option linter.unusedVariables false
set_option maxHeartbeats 8000000
set_option maxRecDepth 1000000
theorem Qky(B W K:Nat)(S:List MR)(hs:List Nat)(sv hv:Value)(wd:Int)(w:World)(hr:Grow w B 190 1 IsSl sv S.length (S.map MR.val))(hh:Grow w B 3 1 IsI hv hs.length (headsV hs))(hok:Oks w W K S)(hlen:S.length=hs.length)(hlt:∀h,h∈ hs->h<W)(hfit:clnFits K (S.map MR.q) hs)(hSl:S.length<=1000)(hW:W<=1000)(hK0:0<K)(hK:4*K+1<68719476000):
 Calls prog 200 #[.agg #[.int .i64 wd,sv,hv]] w fun e w'=>e=.returned (.tuple #[])/\∃S':List MR,S'.length=S.length/\S'.map MR.q=cln (S.map MR.q) hs/\CW w w' B W K S' hs (.int .i64 wd) sv hv:=by
 obtain⟨a,cap,rfl,_,_,hpos⟩:=hr.slice;obtain⟨a2,cap2,rfl,_,_,_⟩:=hh.slice;obtain⟨HR,HH,HO,HL,HLT,HF,HP⟩:=If hr hh hok hlen hlt hfit hpos;clear hr hh hok hlen hlt hfit hpos;go_enter func200,ntmps200;obtain⟨V,hV⟩:=nm (w.alloc (.cells #[.int .i64 wd,.slice a S.length cap,.slice a2 hs.length cap2] 252));have hb0:Below w.heap.size w V:=by rw[<-hV];exact(Below.refl _ _).alloc lZ _
 have HC0:O (CW w V B W K S hs (.int .i64 wd) (.slice a S.length cap) (.slice a2 hs.length cap2)):=Hi ⟨by rw[<-hV];exact SB.new w _ _,HR.o.below hb0,HH.o.below hb0,HO.o.fr (Fr.of_below hb0),fun k hk _=>hb0.block k hk,hb0.os,hb0.tape,hb0.output,hb0.size⟩;have HV:=Hi hV;clear hV hb0;go_wp2_with fail;rw[HV.o];go_loopw [2] (fun i wr=>∃(k:Nat) (Sx:List MR),k<=S.length/\i=.int .i64 ((k:Int) - 1)/\Sx.length=S.length/\(∀p,p<k->Sx[p]?=S[p]?)/\(Sx.drop k).map MR.q=cln ((S.map MR.q).drop k) (hs.drop k)/\CW w wr B W K Sx hs (.int .i64 wd) (.slice a S.length cap) (.slice a2 hs.length cap2)) (fun i _=>(intOf i+1).toNat)
 case atStart=>
  refine⟨S.length,S,Nat.le_refl _,by go_num,rfl,fun _ _=>rfl,?_,HC0.o⟩;rw[List.drop_of_length_le lZ,List.drop_of_length_le (by simp)];rfl
 case round=>
  obtain⟨k,Sx,hk,rfl,hxl,hpre,hdr,hC⟩:=hrel;obtain⟨HC,HPRE,HDR,HXL⟩:=Ic hC hpre hdr hxl;clear hC hpre hdr hxl;by_cases h0:k=0
  .
   subst h0;go_wp2;go_end0;exact⟨rfl,Sx,HXL.o,by have:=HDR.o;simpa using this,HC.o⟩
  .
   obtain⟨j,rfl⟩:∃j,k=j+1:=⟨k - 1,by omega⟩;have ej:((j+1:Nat):Int) - 1=(j:Int):=by omega
   rw[ej];clear ej h0;obtain⟨g,rfl,hgo⟩:=HP.o (by omega);clear hgo;obtain⟨r,hr⟩:∃r,S[j]?=some r:=⟨S[j]'(by omega),gE (by omega)⟩;obtain⟨h,hh⟩:∃h,hs[j]?=some h:=⟨hs[j]'(by have:=HL.o;omega),gE (by have:=HL.o;omega)⟩;have hhW:h<W:=HLT.o h (mO hh);have hrx:Sx[j]?=some r:=by rw[HPRE.o j (by omega)];exact hr
   obtain⟨hct,hft⟩:=Qt7 HL.o hr hh HDR.o HF.o;obtain⟨HCT,HFT⟩:=Ia hct hft;have hrok:=HC.o.ok r (mO hrx);have hrlen:=hrok.len;obtain⟨e,he⟩:∃e,r.ts[h]?=some e:=⟨r.ts[h]'(by omega),gE (by omega)⟩;obtain⟨rb,ro,hra,hrb,d0,d1,d2⟩:=hrok.row.at he;obtain⟨hv,hvf,hvk⟩:=hrok.row.get he;have hek:=hrok.sz e (mO he);obtain⟨hb,ho,rfl,hhb,c2⟩:=HC.o.heads.crow.cell j (.int .i64 (h:Nat)) (by simp[headsV,hh]);have c1:wr.cell? ⟨g,j,none⟩=some (.slice r.a r.ts.length r.cap):=HC.o.rows.cell (by rw[List.getElem?_map,hrx];rfl);rw[hra,hrlen] at c1;obtain⟨-,x1,x2,-⟩:=zc HC.o.box;have q1:((j:Int)<(S.length:Int)):=by omega
   have q2:((j:Int)<(hs.length:Int)):=by have:=HL.o;omega
   have q3:((h:Int)<(W:Int)):=by omega
   obtain⟨HRO,HRA,HE,HV1,HVF⟩:=Id hrok hra (MR.q_at he) hv hvf;have HOV:=Hi (fun u (hu:Below wr.heap.size wr u)=>Qtg r.a r.cap (2*K) e.k r.ts e.x e.y e.z e.q u (HRO.o.row.below hu) (by omega) (HV1.o.below hu) HVF.o hvk (fun t ht=>by have:=HRO.o.sz t ht;omega) (by omega));rw[hrlen,hra] at HOV;have HRX:=Hi hrx;clear hr hh hrx hct hft hrok he hra hv hvf;go_wp2_with fail;go_region_held3 (fun v=>v.cell? ⟨w.heap.size,1,none⟩=some (.slice (some ⟨g,0,none⟩) S.length cap)/\v.cell? ⟨w.heap.size,2,none⟩=some (.slice (some ⟨hb,ho,none⟩) hs.length cap2)/\v.cell? ⟨g,j,none⟩=some (.slice (some ⟨rb,ro,none⟩) W r.cap)/\v.cell? ⟨hb,ho+j,none⟩=some (.int .i64 h)/\v.cell? ⟨rb,ro+h*3,none⟩=some e.x/\v.cell? ⟨rb,ro+h*3+1,none⟩=some e.y/\v.cell? ⟨rb,ro+h*3+2,none⟩=some e.z) ((first|(simp [*];done)|go_keep)) (first
    |(
     go_at_call 254;apply cM;apply HOV.o;(focus(repeat(first|exact Below.refl _ _|apply Qbi|apply Qbj)));rintro e5 w5 ⟨⟨g5,us,rfl,hg5,hqb,hmd⟩,hb5⟩;(first
       |have HB5:O (Below wr.heap.size wr w5):=Hi hb5
       |have HB5:O (Below wr.heap.size wr w5):=Hi (bR.drew.trans hb5))
     obtain⟨HQB,HMD⟩:=Ia hqb hmd;obtain⟨y1,y2⟩:=Ja HB5.o HC.o.box.lt x1 x2;have y3:=(HB5.o.cell (p:=⟨g,j,none⟩) (HC.o.rows.lt (g:=g) rfl).2).trans c1;have y4:=ce HB5.o hhb c2;obtain⟨y5,y6,y7⟩:=Jb HB5.o hrb d0 d1 d2;clear hqb hmd hb5 hg5
     skip)
    |fail)
   clear x1 x2 c1 c2 d0 d1 d2 y1 y2 y3 y4 y5 y6 y7;have HC5:=Hi (HC.o.below HB5.o);obtain⟨r0,hr0v,hr0ok,hr0q⟩:=MOk.made (v:=fun i=>r.q i / r.q h) (K:=K) HQB.o hrlen (by rw[hrlen];exact HMD.o) hK0 (fun i hi=>by rw[HE.o]) (fun i hi=>by
    show r.q i / r.q h=0
    rw[MR.q_beyond (by omega)]
    exact Qt5 _) (fun i _=>HFT.o.here i)
   obtain⟨HR0,HR0Q,HR0V⟩:=Ib hr0ok hr0q hr0v;clear hr0ok hr0q hr0v HQB HMD HOV HC;have hr0v':Value.slice (some ⟨g5,0,none⟩) W W=.slice r0.a W r0.cap:=by
    have:=HR0V.o;unfold MR.val at this;rw[HR0.o.len] at this;exact this.symm
   rw[hr0v'];clear hr0v';go_wp2_with fail;go_loopw [3,4] (fun rv i wq=>∃(m:Nat) (rr:MR),j+1<=m/\m<=S.length/\i=.int .i64 m/\rv=.slice rr.a W rr.cap/\MOk wq W K rr/\CW w wq B W K Sx hs (.int .i64 wd) (.slice (some ⟨g,0,none⟩) S.length cap) (.slice (some ⟨hb,ho,none⟩) hs.length cap2)/\red rr.q ((Sx.drop m).map MR.q) (hs.drop m)=red (fun i=>r.q i / r.q h) ((Sx.drop (j+1)).map MR.q) (hs.drop (j+1))/\redFits K rr.q ((Sx.drop m).map MR.q) (hs.drop m)) (fun _ i _=>S.length - (intOf i).toNat)
   case atStart=>exact⟨j+1,r0,Nat.le_refl _,hk,by go_num,rfl,HR0.o,HC5.o,by rw[HR0Q.o],by rw[HR0Q.o];exact HFT.o⟩
   case round=>
    obtain⟨m,rr,hjm,hm,rfl,rfl,hrr,hC,hred,hrf⟩:=hrel;obtain⟨HC,HRR,HRED,HRF⟩:=Ic hC hrr hred hrf;clear hC hred hrf;by_cases hml:m<S.length
    .
     obtain⟨t,ht⟩:∃t,Sx[m]?=some t:=⟨Sx[m]'(by have:=HXL.o;omega),gE (by have:=HXL.o;omega)⟩;obtain⟨hm',hhm⟩:∃hm',hs[m]?=some hm':=⟨hs[m]'(by have:=HL.o;omega),gE (by have:=HL.o;omega)⟩;have htok:=HC.o.ok t (mO ht);have hmW:hm'<W:=HLT.o hm' (mO hhm);have hrl:=hrr.len;have htl:=htok.len;obtain⟨f,hf⟩:∃f,rr.ts[hm']?=some f:=⟨rr.ts[hm']'(by omega),gE (by omega)⟩;obtain⟨qb,qo,hqa,hqb,d0,d1,d2⟩:=hrr.row.at hf;obtain⟨hv1,hvf1,hvk1⟩:=hrr.row.get hf;have hfk:=hrr.sz f (mO hf);obtain⟨o1,o2,o3⟩:=hv1.one;have s0:=Qap prog o1;have s1:=Qap prog o2;have s2:=Qap prog o3;obtain⟨hb',ho',hbe,hhb',c2⟩:=HC.o.heads.crow.cell m (.int .i64 (hm':Nat)) (by simp[headsV,hhm]);cases hbe
     have c1:wr.cell? ⟨g,m,none⟩=some (.slice t.a t.ts.length t.cap):=HC.o.rows.cell (by rw[List.getElem?_map,ht];rfl);rw[htl] at c1;have hgl:g<wr.heap.size:=(HC.o.rows.lt (g:=g) rfl).2;have hbl:=HC.o.box.lt;obtain⟨-,x1,x2,-⟩:=zc HC.o.box;have q4:((m:Int)<(S.length:Int)):=by omega
     have q5:((m:Int)<(hs.length:Int)):=by have:=HL.o;omega
     have q6:((hm':Int)<(W:Int)):=by omega
     obtain⟨HT,HQA,HFQ,HV2,HVF2,HTX,HHX⟩:=If htok hqa (MR.q_at hf) hv1 hvf1 (Qc5 ht) (Qc5 hhm);have HLS:=Hi (fun u (hu:Below wr.heap.size wr u)=>Qgh rr.a t.a rr.cap t.cap (4*K+1) f.k rr.ts t.ts f.x f.y f.z f.q u (HRR.o.row.below hu) (HT.o.row.below hu) (by omega) (by omega) (HV2.o.below hu) HVF2.o hvk1 (fun x hx y hy=>by have:=HRR.o.sz x hx;have:=HT.o.sz y hy;omega) (by omega));rw[hrl] at HLS;obtain⟨HC1,X1⟩:=Ia c1 x1;rw[hqa];obtain⟨V2,hV2⟩:=nm (wr.alloc (.cells #[f.x,f.y,f.z] 128));have HBV:=Ua hV2;have HSV:=Uc hV2;have HWV:=Hi hV2;clear ht hhm htok hf hqa hv1 hvf1 hV2 o1 o2 o3 hrr;go_wp2_with fail;rw[HWV.o];go_fit (Qb5 (HV2.o.below HBV.o))
     rintro e' w4 ⟨rfl,hb4⟩;have HB4:=Hi (HBV.o.trans (hb4.mono HBV.o.size));obtain⟨HC4,HR4,HS4⟩:=Ib (HC.o.below HB4.o) (HRR.o.fr (Fr.of_below HB4.o)) (HSV.o.below hb4 HSV.o.lt);clear hb4 c1 c2 d0 d1 d2 s0 s1 s2 x1 x2;rw[<-HQA.o];by_cases h0:f.q=0
     .
      rw[decide_eq_true h0];have HZ:O (rr.q hm'=0):=Hi (HFQ.o.trans h0);clear h0;go_wp2;go_roundw
      case rel=>
       have h1:=HRED.o;have h2:=HRF.o;rw[HTX.o,HHX.o,List.map_cons] at h1 h2;rw[Qt6 HZ.o] at h1;exact⟨m+1,rr,by omega,by omega,by go_num,rfl,HR4.o,HC4.o,h1,h2.skip HZ.o⟩
      case measure=>simp[intOf];omega
     .
      rw[decide_eq_false h0];clear h0;obtain⟨-,y1,-⟩:=zc HC4.o.box;have y2:=ce HB4.o hgl HC1.o;obtain⟨b0,b1,b2,-⟩:=zc HS4.o;obtain⟨Y1,Y2⟩:=Ia y1 y2;have hgl4:g<w4.heap.size:=Nat.lt_of_lt_of_le hgl HB4.o.size;have hbl4:w.heap.size<w4.heap.size:=Nat.lt_of_lt_of_le hbl HB4.o.size;go_wp2_with fail;go_region_held3 (fun v=>v.cell? ⟨w.heap.size,1,none⟩=some (.slice (some ⟨g,0,none⟩) S.length cap)/\v.cell? ⟨g,m,none⟩=some (.slice t.a W t.cap)/\v.cell? ⟨wr.heap.size,0,none⟩=some f.x/\v.cell? ⟨wr.heap.size,1,none⟩=some f.y/\v.cell? ⟨wr.heap.size,2,none⟩=some f.z) ((first|(simp [*];done)|go_keep)) (first
       |(
        go_at_call 253;apply cM;apply HLS.o;(focus(repeat(first|exact HB4.o|apply Qbi|apply Qbj)));rintro e6 w6 ⟨⟨g6,us,rfl,hg6,hqb6,hmd⟩,hb6⟩;(first
          |have HB6:O (Below w4.heap.size w4 w6):=Hi hb6
          |have HB6:O (Below w4.heap.size w4 w6):=Hi (bR.drew.trans hb6))
        obtain⟨HQB,HMD,HS6⟩:=Ib hqb6 hmd (HS4.o.below HB6.o HS4.o.lt);have z1:=ce HB6.o hbl4 Y1.o;have z2:=ce HB6.o hgl4 Y2.o;obtain⟨z3,z4,z5,-⟩:=zc HS6.o;clear hqb6 hmd hb6 hg6
        skip)
       |fail)
      all_goals
       clear y1 y2 b0 b1 b2 z1 z2 z3 z4 z5;have hft:=HRF.o;rw[HTX.o,HHX.o,List.map_cons] at hft;obtain⟨r6,hr6v,hr6ok,hr6q⟩:=MOk.made (v:=fun i=>rr.q i - t.q i*rr.q hm') (K:=K) HQB.o hrl (by rw[hrl];exact HMD.o) hK0 (fun i hi=>by
        show rr.q i - qAt t.ts i*f.q=_
        rw[qAt_q,HFQ.o]) (fun i hi=>by
        show rr.q i - t.q i*rr.q hm'=0
        rw[MR.q_beyond (r:=rr) (by omega),MR.q_beyond (r:=t) (by omega)]
        exact Qkx _) (fun i _=>hft.next.here i)
       have hr6v':Value.slice (some ⟨g6,0,none⟩) W W=.slice r6.a W r6.cap:=by
        unfold MR.val at hr6v;rw[hr6ok.len] at hr6v;exact hr6v.symm
       have HN1:O (red r6.q ((Sx.drop (m+1)).map MR.q) (hs.drop (m+1))=red (fun i=>r.q i / r.q h) ((Sx.drop (j+1)).map MR.q) (hs.drop (j+1))):=Hi (by
        have h1:=HRED.o;rw[HTX.o,HHX.o,List.map_cons] at h1;rw[hr6q]
        exact h1)
       have HN2:O (redFits K r6.q ((Sx.drop (m+1)).map MR.q) (hs.drop (m+1))):=Hi (by rw[hr6q];exact hft.next);obtain⟨HN3,HN4⟩:=Ia hr6ok hr6v';clear hft hr6v hr6ok hr6q hr6v';go_wp2_with fail;refine⟨⟨m+1,r6,by omega,by omega,by go_num,HN4.o,HN3.o,HC4.o.below HB6.o,HN1.o,HN2.o⟩,?_⟩;simp[intOf];omega
    .
     have hk':m=S.length:=by omega
     subst hk';have er:rr.val=.slice rr.a W rr.cap:=by unfold MR.val;rw[hrr.len]
     have hq:rr.q=red (fun i=>r.q i / r.q h) ((Sx.drop (j+1)).map MR.q) (hs.drop (j+1)):=by
      have h1:=HRED.o;rw[List.drop_of_length_le (by rw[HXL.o];exact Nat.le_refl _)] at h1
      simpa [red] using h1
     obtain⟨HER,HQ⟩:=Ia er hq;obtain⟨-,x1,-⟩:=zc HC.o.box;have f0:=HC.o.rows.free j;have t0:wr.cell? ⟨g,j,none⟩=some r.val:=HC.o.rows.cell (by rw[List.getElem?_map,HRX.o];rfl);clear er hq hrr;go_wp2_with fail;refine⟨⟨j,Sx.set j rr,by omega,by go_num,by rw[List.length_set];exact HXL.o,fun p hp=>?_,?_,?_⟩,?_⟩
     . rw[List.getElem?_set_ne (by omega)]
       exact HPRE.o p (by omega)
     .
      have hjx:j<Sx.length:=by have:=HXL.o;omega
      rw[Qc5 (List.getElem?_set_self hjx),List.drop_set,if_pos (by omega),List.map_cons,HQ.o];exact HCT.o.symm
     . rw[<-HER.o]
       exact HC.o.set HXL.o.symm (by have:=HXL.o;omega) HRR.o
     . simp[intOf]
def gb:Nat->Nat->Nat
 |k,0=>k
 |k,c+1=>4*gb k c+1
theorem Qpg{k:Nat}(h:0<k):∀c,0<gb k c
 |0=>h
 |c+1=>by simp only[gb];omega
theorem Qcs(k c:Nat):gb k c<=gb k (c+1):=by simp only[gb];omega
theorem Qit(k:Nat){c d:Nat}(h:c<=d):gb k c<=gb k d:=by
 induction d with
 |zero=>have:c=0:=by omega
        subst this;exact Nat.le_refl _
 |succ d ih=>
  rcases Nat.lt_or_ge d c with h1|h1
  .
   have:c=d+1:=by omega
   subst this;exact Nat.le_refl _
  . exact Nat.le_trans (ih h1) (Qcs k d)
def Short(k:Nat)(r:Vec):Prop:=∀i,Fits (r i) k
theorem Short.mono{k j:Nat}{r:Vec}(h:Short k r)(hk:k<=j):Short j r:=fun i=>(h i).mono hk
theorem Short.less{k c:Nat}{r s:Vec}(hk:0<k)(h:Short k r)(h':Short k s):Short (4*k+1) (lessBy c s r):=fun i=>by
 unfold lessBy;have h1:=(h i).sub ((h' i).mul ((h c).div (h' c) hk hk) hk);exact h1.mono (by omega)
def NI(W n k:Nat)(M:List Vec)(c:Nat)(L S:List Vec)(hs:List Nat):Prop:=
 (∀r,r∈ L->∀i,W<=i->r i=0)/\
 ((c<=W/\Elim W M c L S hs/\(∀r,r∈ L->Short (gb k c) r)/\(∀r,r∈ S->Short (gb k c) r)/\L.length+S.length=n)∨(W<c/\∀r,r∈ L->∀i,r i=0))
theorem NI.start(W k:Nat)(M:List Vec)(hM:∀r,r∈ M->∀i,W<=i->r i=0)(hs:∀r,r∈ M->Short k r):NI W M.length k M 0 M [] []:=
 ⟨hM,.inl ⟨Nat.zero_le _,Elim.start W M,hs,(fun r hr=>by cases hr),rfl⟩⟩
theorem NI.going(W n k K:Nat)(M:List Vec)(hk:0<k)(hK:gb k W<=K)(hK0:0<K):Going K (NI W n k M) where
 fit:=fun {c L S hs} h r hr i=>by
  rcases h.2 with ⟨h1,_,h3,_⟩|⟨_,h3⟩
  . exact(h3 r hr i).mono (Nat.le_trans (Qit k h1) hK)
  . rw[h3 r hr i]
    exact Fits.zero.mono hK0
 skip:=fun {c L S hs} h h0=>by
  refine⟨h.1,?_⟩;rcases h.2 with ⟨h1,h2,h3,h4,h5⟩|⟨h1,h3⟩
  .
   rcases Nat.lt_or_ge c W with hc|hc
   . exact .inl ⟨hc,h2.skip h0,fun r hr=>(h3 r hr).mono (Qcs k c),fun r hr=>(h4 r hr).mono (Qcs k c),h5⟩
   .
    have e:c=W:=by omega
    subst e;refine .inr ⟨Nat.lt_succ_self _,fun r hr i=>?_⟩;rcases Nat.lt_or_ge i c with hi|hi
    . exact h2.zero r hr i hi
    . exact h.1 r hr i hi
  . exact .inr ⟨by omega,h3⟩
 step:=fun {c j L S hs s} h hj h0=>by
  have hs':s∈ L:=mO hj;have hjl:j<L.length:=(gZ hj).1;refine⟨fun r hr i hi=>?_,?_⟩
  .
   obtain⟨t,ht,rfl⟩:=List.mem_map.1 hr;unfold lessBy;rw[h.1 t (List.mem_of_mem_eraseIdx ht) i hi,h.1 s hs' i hi];exact Qkx _
  .
   rcases h.2 with ⟨h1,h2,h3,h4,h5⟩|⟨h1,h3⟩
   .
    rcases Nat.lt_or_ge c W with hc|hc
    .
     refine .inl ⟨hc,h2.step hj h0,fun r hr=>?_,fun r hr=>?_,?_⟩
     . obtain⟨t,ht,rfl⟩:=List.mem_map.1 hr
       exact Short.less (Qpg hk c) (h3 t (List.mem_of_mem_eraseIdx ht)) (h3 s hs')
     .
      rcases List.mem_append.1 hr with hr|hr
      . exact(h4 r hr).mono (Qcs k c)
      . obtain rfl:r=s:=by simpa using hr
        exact(h3 r hs').mono (Qcs k c)
     .
      rw[List.length_map,List.length_eraseIdx,if_pos hjl,List.length_append];simp;omega
    . exact absurd (h.1 s hs' c hc) h0
   . exact absurd (h3 s hs' c) h0
theorem NI.done{W n k:Nat}{M L S:List Vec}{hs:List Nat}(h:NI W n k M W L S hs):Ech 0 W S hs/\(∀x,Null W M x↔Null W S x)/\(∀r,r∈ S->Short (gb k W) r)/\S.length<=n:=by
 rcases h.2 with ⟨_,h2,_,h4,h5⟩|⟨h1,_⟩
 . obtain⟨e1,e2⟩:=h2.done
   exact⟨e1,e2,h4,by omega⟩
 . omega
def cb(k:Nat):Nat->Nat
 |0=>1
 |m+1=>2 ^ m*(2*k+cb k m+1)
theorem Qiu{K:Nat}:∀{T:List Vec} {hs:List Nat} {B j:Nat} {r:Vec},0<B->0<j->(∀t,t∈ T->Short B t)->Short j r->2 ^ T.length*j+(2 ^ T.length - 1)*(B+1)<=K->redFits K r T hs/\Short (2 ^ T.length*j+(2 ^ T.length - 1)*(B+1)) (red r T hs)
 | [],hs,B,j,r,_,_,_,hr,hK=>by
   simp only[List.length_nil,Nat.pow_zero,Nat.one_mul,Nat.sub_self,Nat.zero_mul,Nat.add_zero] at hK ⊢;refine⟨?_,by simpa [red] using hr⟩;unfold redFits;exact fun i=>(hr i).mono hK
 |t :: T,[],B,j,r,_,_,_,hr,hK=>by
  have h1:1<=2 ^ (t :: T).length:=Nat.one_le_two_pow;have h2:j<=2 ^ (t :: T).length*j:=Nat.le_mul_of_pos_left j h1;refine⟨?_,?_⟩
  . unfold redFits
    exact fun i=>(hr i).mono (by omega)
  . simp only[red]
    exact hr.mono (by omega)
 |t :: T,h :: hs,B,j,r,hB,hj,hT,hr,hK=>by
  have ht:=hT t List.mem_cons_self;have h1:Short (2*j+B+1) (fun i=>r i - t i*r h):=fun i=>((hr i).sub ((ht i).mul (hr h) hB)).mono (by omega)
  have e:2 ^ (t :: T).length*j+(2 ^ (t :: T).length - 1)*(B+1)=2 ^ T.length*(2*j+B+1)+(2 ^ T.length - 1)*(B+1):=by
   have h2:1<=2 ^ T.length:=Nat.one_le_two_pow;obtain⟨p,hp⟩:∃p,2 ^ T.length=p+1:=⟨2 ^ T.length - 1,by omega⟩;simp only[List.length_cons,Nat.pow_succ,hp];have e1:(p+1)*2 - 1=2*p+1:=by omega
   have e2:p+1 - 1=p:=by omega
   rw[e1,e2];grind
  rw[e] at hK ⊢;obtain⟨k1,k2⟩:=Qiu (K:=K) (T:=T) (hs:=hs) hB (by omega) (fun t ht=>hT t (List.mem_cons_of_mem _ ht)) h1 hK;refine⟨⟨fun i=>(hr i).mono ?_,k1⟩,k2⟩;have h2:1<=2 ^ T.length:=Nat.one_le_two_pow;have h3:2*j+B+1<=2 ^ T.length*(2*j+B+1):=Nat.le_mul_of_pos_left _ h2;omega
theorem Qph(k:Nat):∀m,0<cb k m
 |0=>Nat.one_pos
 |m+1=>Nat.mul_pos (Nat.pow_pos (by decide)) (by omega)
theorem Qiv(k m:Nat):cb k m<=cb k (m+1):=by
 have h:2*k+cb k m+1<=2 ^ m*(2*k+cb k m+1):=Nat.le_mul_of_pos_left _ Nat.one_le_two_pow;simp only[cb];omega
theorem Qiw{k K:Nat}(hk:0<k):∀{S:List Vec} {hs:List Nat},S.length=hs.length->(∀r,r∈ S->Short k r)->cb k S.length<=K->clnFits K S hs/\∀r,r∈ cln S hs->Short (cb k S.length) r
 | [],[],_,_,_=>⟨trivial,fun r hr=>by cases hr⟩
 |r :: S,h :: hs,hl,hS,hK=>by
  have hl':S.length=hs.length:=by simpa using hl
  have hb:=Qiv k S.length;obtain⟨k1,k2⟩:=Qiw (K:=K) hk hl' (fun x hx=>hS x (List.mem_cons_of_mem _ hx)) (Nat.le_trans hb hK);have hr:=hS r List.mem_cons_self;have h1:Short (2*k) (fun i=>r i / r h):=fun i=>((hr i).div (hr h) hk hk).mono (by omega)
  have hlen:=Qb9 S hs hl';have h2:2 ^ (cln S hs).length*(2*k)+(2 ^ (cln S hs).length - 1)*(cb k S.length+1)<=cb k (S.length+1):=by
   rw[hlen];simp only[cb];have h3:(2 ^ S.length - 1)*(cb k S.length+1)<=2 ^ S.length*(cb k S.length+1):=Nat.mul_le_mul_right _ (Nat.sub_le _ _);have h4:2 ^ S.length*(2*k+cb k S.length+1)=2 ^ S.length*(2*k)+2 ^ S.length*(cb k S.length+1):=by rw[Nat.add_assoc,Nat.mul_add]
   omega
  obtain⟨k3,k4⟩:=Qiu (K:=K) (T:=cln S hs) (hs:=hs) (Qph k S.length) (by omega) k2 h1 (Nat.le_trans h2 hK);refine⟨⟨k1,k3⟩,fun x hx=>?_⟩;simp only[cln,List.mem_cons] at hx;rcases hx with rfl|hx
  . exact k4.mono h2
  . exact(k2 x hx).mono hb
 | [],_ :: _,h,_,_=>by simp at h
 |_ :: _,[],h,_,_=>by simp at h
theorem Qpi(k:Nat){m n:Nat}(h:m<=n):cb k m<=cb k n:=by
 induction n with
 |zero=>
  have:m=0:=by omega
  subst this;exact Nat.le_refl _
 |succ n ih=>
  rcases Nat.lt_or_ge n m with h1|h1
  .
   have:m=n+1:=by omega
   subst this;exact Nat.le_refl _
  . exact Nat.le_trans (ih h1) (Qiv k n)
theorem corner_bounds:gb 1 7=21845/\cb 21845 6<17000000000:=by decide
theorem Quh:(prog.info? 23).map (fun i=>(i.zero,i.size,i.bytes))=some (some (.string ⟨#[]⟩),1,16):=by kernel_rfl
def textsV(ss:List ByteArray):List Value:=ss.map Value.string
theorem Qui(n:Nat):madeCells (Value.cells (.string ⟨#[]⟩)) n=(textsV (List.replicate n ⟨#[]⟩)).toArray:=by
 have e:Value.cells (.string ⟨#[]⟩)=#[.string ⟨#[]⟩]:=by rfl
 rw[e];apply Array.ext';rw[toList_madeCells_one];simp[textsV]
theorem Quj(n:Nat)(hn:n<=1048576)(w:World):(Instr.makeSlice 88 (.int .i64 n) (.int .i64 n)).run prog w=.ok (.slice (some ⟨w.heap.size,0,.none⟩) n n) (w.alloc (.cells (textsV (List.replicate n ⟨#[]⟩)).toArray 23)):=by
 obtain⟨i,hi,h⟩:=Option.map_eq_some_iff.1 Quh;simp only[Prod.mk.injEq] at h;obtain⟨hz,hs,hb⟩:=h;have:=run_make w 88 23 i _ underlying88 hi hz .i64 .i64 n n (by omega) (by omega) (by rw[hb];omega) (by omega);rw[Int.toNat_natCast,hs,Nat.mul_one,Qui] at this;exact this
theorem Quk(ss:List ByteArray)(k:Nat)(s:ByteArray):textsV (ss.set k s)=(textsV ss).set k (.string s):=by simp[textsV]
theorem Qk4(a:Option Addr)(cap K:Nat)(ts:List FE)(w:World)(hg:Glob w)(h:QRow w a cap ts)(hk:∀t,t∈ ts->t.k<=K)(hK:K<=274877906944)(hl:ts.length<=1000):
 Calls prog 203 #[.slice a ts.length cap] w fun e w'=>(∃(g:Nat) (ss:List ByteArray),e=.returned (.slice (some ⟨g,0,none⟩) ts.length ts.length)/\ss.length=ts.length/\SB w' g 23 (textsV ss).toArray/\∀(i:Nat) (t:FE) (s:ByteArray),ts[i]?=some t->ss[i]?=some s->QText s.data.toList t.q)/\Below w.heap.size w w':=by
 obtain⟨HH,HGL,HK⟩:=Ib h hg hk;have hmk:=fun w=>Quj ts.length (by omega) w
 obtain⟨MC,hMC⟩:=nm ((textsV (List.replicate ts.length ⟨#[]⟩)).toArray);rw[hMC] at hmk;have HMC:=Hi hMC;clear h hg hk hMC;go_enter func203,ntmps203;go_wp2_with fail;clear hmk;obtain⟨g,hg⟩:=nm w.heap.size;obtain⟨V,hV⟩:=nm (w.alloc (.cells MC 23));have HB0:O (Below g w V):=Hi (by rw[<-hV,<-hg];exact(Below.refl _ _).alloc lZ _);have HQ0:O (SB V g 23 (textsV (List.replicate ts.length ⟨#[]⟩)).toArray):=Hi (by rw[<-hV,<-hg,HMC.o];exact SB.new w _ _)
 try rw[hV]
 try rw[hg]
 clear hV;go_loopw [10] (fun i wr=>∃(k:Nat) (ss:List ByteArray),k<=ts.length/\i=.int .i64 k/\ss.length=ts.length/\SB wr g 23 (textsV ss).toArray/\(∀(i:Nat) (t:FE) (s:ByteArray),i<k->ts[i]?=some t->ss[i]?=some s->QText s.data.toList t.q)/\Below g w wr) (fun i _=>ts.length - (intOf i).toNat)
 case atStart=>exact⟨0,_,by omega,rfl,by simp,HQ0.o,fun i t s hi=>by omega,HB0.o⟩
 case round=>
  obtain⟨k,ss,hk,rfl,hsl,hsb,hall,hb⟩:=hrel;obtain⟨HB,HSB,HA⟩:=Ib hb hsb hall;have hgl:=hsb.lt;have HSL:=Hi hsl;clear hb hsb hall hsl;by_cases hlt:k<ts.length
  .
   obtain⟨t,ht⟩:∃t,ts[k]?=some t:=⟨ts[k],gE hlt⟩;have hbw:Below w.heap.size w wr:=by rw[hg];exact HB.o
   obtain⟨fb,off,rfl,hfb,d0,d1,d2⟩:=(HH.o.below hbw).at ht;obtain⟨HTV,HTK,HTA⟩:=Ib ((HH.o.below hbw).get ht) (HK.o t (mO ht)) (HGL.o.below hbw);have q1:((k:Int)<(ts.length:Int)):=by omega
   have HT:=Hi ht;obtain⟨s0,hs0⟩:∃s0,ss[k]?=some s0:=⟨ss[k]'(by have:=HSL.o;omega),gE (by have:=HSL.o;omega)⟩;have HS0:=Hi hs0;clear ht hbw hs0;go_wp2_with fail;go_fit (Qfg HTA.o.tab HTV.o.1 (HTV.o.2.1.mono HTK.o) hK);rintro e w2 ⟨⟨s,rfl,hqt⟩,hb2⟩;obtain⟨HQT,HB2,HSB2⟩:=Ib hqt hb2 (HSB.o.below hb2 HSB.o.lt);have f0:=HSB2.o.free k;have t0:w2.cell? ⟨g,k,none⟩=some (.string s0):=by
    rw[HSB2.o.cell];simp[textsV,HS0.o]
   clear hqt hb2 d0 d1 d2;go_wp2;go_roundw
   case rel=>
    refine⟨k+1,ss.set k s,by omega,by go_num,by rw[List.length_set];exact HSL.o,?_,fun i x y hi hx hy=>?_,(HB.o.trans (HB2.o.mono (Nat.le_of_lt hgl))).setCell (p:=⟨g,k,none⟩) lZ _⟩
    .
     have:=HSB2.o.set k (.string s);rw[Quk]
     simpa using this
    .
     rcases Nat.lt_or_ge i k with h1|h1
     . rw[List.getElem?_set_ne (by omega)] at hy
       exact HA.o i x y h1 hx hy
     .
      obtain rfl:i=k:=by omega
      rw[List.getElem?_set_self (by have:=HSL.o;omega)] at hy;obtain rfl:=Option.some.inj hy;obtain rfl:=Option.some.inj (HT.o.symm.trans hx);exact HQT.o
   case measure=>simp[intOf];omega
  .
   have hk':k=ts.length:=by omega
   subst hk';go_wp2;go_ret;rw[hg];exact⟨⟨g,ss,rfl,HSL.o,HSB.o,fun i t s ht hs=>HA.o i t s (gZ ht).1 ht hs⟩,HB.o⟩
theorem Tryz.stressInfo:(prog.info? 90).map (·.size)=some 2:=by kernel_rfl
theorem QRow.take{w:World}{a:Option Addr}{cap:Nat}{ts:List FE}(h:QRow w a cap ts)(n:Nat):QRow w a cap (ts.take n):=by
 refine⟨⟨?_,⟨fun j u hj=>h.row.row.cell j u ?_⟩⟩,fun t ht=>h.ts t (List.mem_of_mem_take ht)⟩
 .
  have:=h.row.fit;rw[List.length_take];omega
 .
  have e:ts.flatMap FE.cells=(ts.take n).flatMap FE.cells++(ts.drop n).flatMap FE.cells:=by rw[<-List.flatMap_append,List.take_append_drop]
  rw[e,List.getElem?_append_left (gZ hj).1];exact hj
theorem QRow.drop{w:World}{b off cap:Nat}{ts:List FE}(h:QRow w (some ⟨b,off,none⟩) cap ts){n:Nat}(hn:n<=ts.length):QRow w (some ⟨b,off+n*3,none⟩) (cap - n) (ts.drop n):=by
 refine⟨⟨?_,⟨fun j u hj=>?_⟩⟩,fun t ht=>h.ts t (List.mem_of_mem_drop ht)⟩
 .
  have:=h.row.fit;rw[List.length_drop];omega
 .
  have e:ts.flatMap FE.cells=(ts.take n).flatMap FE.cells++(ts.drop n).flatMap FE.cells:=by rw[<-List.flatMap_append,List.take_append_drop]
  have hl:((ts.take n).flatMap FE.cells).length=n*3:=by
   rw[Qb2 (c:=FE.cells) (sz:=3) (fun _=>rfl),List.length_take,Nat.min_eq_left hn]
  obtain⟨b',off',ha,hb,hc⟩:=h.row.row.cell (n*3+j) u (by rw[e,List.getElem?_append_right (by omega),hl,Nat.add_sub_cancel_left];exact hj);cases ha;exact⟨b,off+n*3,rfl,hb,by rw[Nat.add_assoc];exact hc⟩
theorem QRow.empty(w:World)(a:Option Addr)(cap:Nat):QRow w a cap []:=⟨⟨Nat.zero_le _,⟨fun j u hj=>by simp at hj⟩⟩,fun t ht=>by cases ht⟩
def Told(ts:List FE)(ss:List ByteArray):Prop:=ss.length=ts.length/\∀(i:Nat) (t:FE) (s:ByteArray),ts[i]?=some t->ss[i]?=some s->QText s.data.toList t.q
theorem Qul(s1 s3:Value)(a2:Option Addr)(c2 nb b off cap K:Nat)(ts:List FE)(w:World)(hg:Glob w)(h:QRow w (some ⟨b,off,none⟩) cap ts)(hk:∀t,t∈ ts->t.k<=K)(hK:K<=274877906944)(hl:ts.length<=1000)(hn:nb<=ts.length)(hcm:cap<=1000)(o1:s1.oneCell'=true)(o3:s3.oneCell'=true):
 Calls prog 121 #[.agg #[s1,.slice a2 nb c2,s3],.slice (some ⟨b,off,none⟩) ts.length cap] w fun e w'=>(∃(g1 g2:Nat) (x y:List ByteArray),e=.returned (.agg #[.slice (some ⟨g1,0,none⟩) nb nb,.slice (some ⟨g2,0,none⟩) (ts.length - nb) (ts.length - nb)])/\SB w' g1 23 (textsV x).toArray/\SB w' g2 23 (textsV y).toArray/\Told (ts.take nb) x/\Told (ts.drop nb) y)/\Below w.heap.size w w':=by
 have hfit:=h.row.fit;have l1:(ts.take nb).length=nb:=by rw[List.length_take];omega
 have l2:(ts.drop nb).length=ts.length - nb:=List.length_drop;obtain⟨A,hA,hAq⟩:∃A:Addr,(if cap=nb then some (⟨b,off,none⟩:Addr) else some ⟨b,off+nb*3,none⟩)=some A/\QRow w (some A) (cap - nb) (ts.drop nb):=by
  by_cases e:cap=nb
  .
   refine⟨⟨b,off,none⟩,by simp[e],?_⟩;have:ts.drop nb= []:=List.drop_of_length_le (by omega);rw[this];exact QRow.empty _ _ _
  . exact⟨⟨b,off+nb*3,none⟩,by simp[e],h.drop hn⟩
 obtain⟨HT1,HT2⟩:=Ia (fun u (hu:Below w.heap.size w u)=>Qk4 (some ⟨b,off,none⟩) cap K (ts.take nb) u (hg.below hu) ((h.take nb).below hu) (fun t ht=>hk t (List.mem_of_mem_take ht)) hK (by omega)) (fun u (hu:Below w.heap.size w u)=>Qk4 (some A) (cap - nb) K (ts.drop nb) u (hg.below hu) (hAq.below hu) (fun t ht=>hk t (List.mem_of_mem_drop ht)) hK (by omega));rw[l1] at HT1;rw[l2] at HT2;obtain⟨HL1,HL2⟩:=Ia l1 l2;clear h hg hk hAq l1 l2;go_enter func121,ntmps121;obtain⟨V,hV⟩:=nm ((w.alloc (.cells #[s1,.slice a2 nb c2,s3] 54)).alloc (.cells #[.slice none 0 0,.slice none 0 0] 90));have HB0:=Ub hV;have HS1:=Ue hV;have HV:=Hi hV;clear hV;have q1:nb<=cap:=by omega
 go_wp2_with fail;rw[HV.o];go_region_held3 (fun _=>True) (trivial) (first
  |(
   go_at_call_of 203 (Value.slice (some ⟨b,off,none⟩) nb cap);apply cM;apply HT1.o;(focus(repeat(first|exact HB0.o|apply Qbi|apply Qbj)));rintro e1 w1 ⟨⟨g1,x,rfl,hx1,hx2,hx3⟩,hb1⟩;(first
     |have HB1:O (Below V.heap.size V w1):=Hi hb1
     |have HB1:O (Below V.heap.size V w1):=Hi (bR.drew.trans hb1))
   obtain⟨HX1,HX2,HX3,HW1⟩:=Ic hx1 hx2 hx3 (HB0.o.trans (HB1.o.mono HB0.o.size));clear hx1 hx2 hx3 hb1
   skip)
  |(
   go_at_call_of 203 (Value.slice (some A) (ts.length - nb) (cap - nb));apply cM;apply HT2.o;(focus(repeat(first|exact HW1.o|apply Qbi|apply Qbj)));rintro e2 w2 ⟨⟨g2,y,rfl,hy1,hy2,hy3⟩,hb2⟩;(first
     |have HB2:O (Below w1.heap.size w1 w2):=Hi hb2
     |have HB2:O (Below w1.heap.size w1 w2):=Hi (bR.drew.trans hb2))
   obtain⟨HY1,HY2,HY3,HR2⟩:=Ic hy1 hy2 hy3 ((HS1.o.below HB1.o HS1.o.lt).below HB2.o (HS1.o.below HB1.o HS1.o.lt).lt);obtain⟨r0,r1,-⟩:=zc HR2.o;have f0:=HR2.o.free 0;have f1:=HR2.o.free 1;clear hy1 hy2 hy3 hb2
   skip)
  |fail)
 all_goals
  go_wp2;have hx:=HX2.o.below HB2.o HX2.o.lt;have nx:=hx.unlike HR2.o (by decide);have ny:=HY2.o.unlike HR2.o (by decide);refine bodyPost_ret (v:=.agg #[.slice (some ⟨g1,0,none⟩) nb nb,.slice (some ⟨g2,0,none⟩) (ts.length - nb) (ts.length - nb)]) (results_cell_row rfl _ _ (w.heap.size+1) 90 #[.slice (some ⟨g1,0,none⟩) nb nb,.slice (some ⟨g2,0,none⟩) (ts.length - nb) (ts.length - nb)] (0,0) _ rfl ((HR2.o.set 0 _).set 1 _) underlying90 rfl Tryz.stressInfo) rfl ?_;exact⟨⟨g1,g2,x,y,rfl,(hx.other nx _ _).other nx _ _,(HY2.o.other ny _ _).other ny _ _,⟨by rw[HL1.o];exact HX1.o,HX3.o⟩,⟨by rw[HL2.o];exact HY1.o,HY3.o⟩⟩,((HW1.o.trans (HB2.o.mono HW1.o.size)).setCell (Nat.le_succ _) _).setCell (Nat.le_succ _) _⟩
end Go.Proofs.YtjgofdclmcpopaaGreatDoor
