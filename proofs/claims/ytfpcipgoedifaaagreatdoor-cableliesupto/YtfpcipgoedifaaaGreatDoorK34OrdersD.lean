/- A region that draws its order: a condition on the world that holds behind every operation but some, the last ones. -/
import Derived.Test.YtfpcipgoedifaaaGreatDoorK32RowsO
namespace Go.Proofs.YtfpcipgoedifaaaGreatDoor
open Go.RowKit
set_option linter.unusedVariables false
set_option linter.unusedSimpArgs false
set_option maxRecDepth 100000 in
set_option maxHeartbeats 4000000 in
theorem Qur(B W K:Nat)(S:List MR)(hs:List Nat)(sv hv:Value)(wd:Int)(w:World)(hr:Grow w B 70 1 IsSl sv S.length (S.map MR.val))(hh:Grow w B 3 1 IsI hv hs.length (headsV hs))(hok:Oks w W K S)(hlen:S.length=hs.length)(hlt:∀h,h∈ hs->h<W)(hfit:clnFits K (S.map MR.q) hs)(hSl:S.length<=1000)(hW:W<=1000)(hK0:0<K)(hK:4*K+1<68719476000):
 Calls Tryz.prog 100 #[.agg #[.int .i64 wd,sv,hv]] w fun e w'=>e=.returned (.tuple #[])/\∃S':List MR,S'.length=S.length/\S'.map MR.q=cln (S.map MR.q) hs/\CW w w' B W K S' hs (.int .i64 wd) sv hv:=by
 obtain⟨a,cap,rfl,_,_,hpos⟩:=hr.slice;obtain⟨a2,cap2,rfl,_,_,_⟩:=hh.slice;have HR:=Hi hr;have HH:=Hi hh;have HO:=Hi hok;have HL:=Hi hlen;have HLT:=Hi hlt;have HF:=Hi hfit;have HP:=Hi hpos;clear hr hh hok hlen hlt hfit hpos;go_enter Tryz.func100,Tryz.ntmps100;obtain⟨V,hV⟩:=nm (w.alloc (.cells #[.int .i64 wd,.slice a S.length cap,.slice a2 hs.length cap2] 144));have hb0:Below w.heap.size w V:=by rw[<-hV];exact(Below.refl _ _).alloc lZ _
 have HC0:Hid (CW w V B W K S hs (.int .i64 wd) (.slice a S.length cap) (.slice a2 hs.length cap2)):=Hi ⟨by rw[<-hV];exact SB.new w _ _,HR.out.below hb0,HH.out.below hb0,HO.out.fr (Fr.of_below hb0),fun k hk _=>hb0.block k hk,hb0.os,hb0.tape,hb0.output,hb0.size⟩;have HV:=Hi hV;clear hV hb0;go_wp2_with fail;rw[HV.out];go_loopw [2] (fun i wr=>∃(k:Nat) (Sx:List MR),k<=S.length/\i=.int .i64 ((k:Int) - 1)/\Sx.length=S.length/\(∀p,p<k->Sx[p]?=S[p]?)/\(Sx.drop k).map MR.q=cln ((S.map MR.q).drop k) (hs.drop k)/\CW w wr B W K Sx hs (.int .i64 wd) (.slice a S.length cap) (.slice a2 hs.length cap2)) (fun i _=>(intOf i+1).toNat)
 case atStart=>
  refine⟨S.length,S,Nat.le_refl _,by go_num,rfl,fun _ _=>rfl,?_,HC0.out⟩;rw[List.drop_of_length_le lZ,List.drop_of_length_le (by simp)];rfl
 case round=>
  obtain⟨k,Sx,hk,rfl,hxl,hpre,hdr,hC⟩:=hrel;have HC:=Hi hC;have HPRE:=Hi hpre;have HDR:=Hi hdr;have HXL:=Hi hxl;clear hC hpre hdr hxl;by_cases h0:k=0
  ·
   subst h0;go_wp2;go_end0;exact⟨rfl,Sx,HXL.out,by have:=HDR.out;simpa using this,HC.out⟩
  ·
   obtain⟨j,rfl⟩:∃j,k=j+1:=⟨k - 1,by omega⟩;have ej:((j+1:Nat):Int) - 1=(j:Int):=by omega
   rw[ej];clear ej h0;obtain⟨g,rfl,hgo⟩:=HP.out (by omega);clear hgo;obtain⟨r,hr⟩:∃r,S[j]?=some r:=⟨S[j]'(by omega),gE (by omega)⟩;obtain⟨h,hh⟩:∃h,hs[j]?=some h:=⟨hs[j]'(by have:=HL.out;omega),gE (by have:=HL.out;omega)⟩;have hhW:h<W:=HLT.out h (mO hh);have hrx:Sx[j]?=some r:=by rw[HPRE.out j (by omega)];exact hr
   obtain⟨hct,hft⟩:=Quq HL.out hr hh HDR.out HF.out;have HCT:=Hi hct;have HFT:=Hi hft;have hrok:=HC.out.ok r (mO hrx);have hrlen:=hrok.len;obtain⟨e,he⟩:∃e,r.ts[h]?=some e:=⟨r.ts[h]'(by omega),gE (by omega)⟩;obtain⟨rb,ro,hra,hrb,d0,d1,d2⟩:=hrok.row.at he;obtain⟨hv,hvf,hvk⟩:=hrok.row.get he;have hek:=hrok.sz e (mO he);obtain⟨hb,ho,rfl,hhb,c2⟩:=HC.out.heads.crow.cell j (.int .i64 (h:Nat)) (by simp[headsV,hh]);have c1:wr.cell? ⟨g,j,none⟩=some (.slice r.a r.ts.length r.cap):=HC.out.rows.cell (by rw[List.getElem?_map,hrx];rfl);rw[hra,hrlen] at c1;obtain⟨-,x1,x2,-⟩:=zc HC.out.box;have q1:((j:Int)<(S.length:Int)):=by omega
   have q2:((j:Int)<(hs.length:Int)):=by have:=HL.out;omega
   have q3:((h:Int)<(W:Int)):=by omega
   have HRO:=Hi hrok;have HRA:=Hi hra;have HE:=Hi (MR.q_at he);have HV1:=Hi hv;have HVF:=Hi hvf;have HOV:=Hi (fun u (hu:Below wr.heap.size wr u)=>Qty r.a r.cap (2*K) e.k r.ts e.x e.y e.z e.q u (HRO.out.row.below hu) (by omega) (HV1.out.below hu) HVF.out hvk (fun t ht=>by have:=HRO.out.sz t ht;omega) (by omega));rw[hrlen,hra] at HOV;have HRX:=Hi hrx;clear hr hh hrx hct hft hrok he hra hv hvf;go_wp2_with fail;go_region_held3 (fun v=>v.cell? ⟨w.heap.size,1,none⟩=some (.slice (some ⟨g,0,none⟩) S.length cap)/\v.cell? ⟨w.heap.size,2,none⟩=some (.slice (some ⟨hb,ho,none⟩) hs.length cap2)/\v.cell? ⟨g,j,none⟩=some (.slice (some ⟨rb,ro,none⟩) W r.cap)/\v.cell? ⟨hb,ho+j,none⟩=some (.int .i64 h)/\v.cell? ⟨rb,ro+h*3,none⟩=some e.x/\v.cell? ⟨rb,ro+h*3+1,none⟩=some e.y/\v.cell? ⟨rb,ro+h*3+2,none⟩=some e.z) ((first|(simp [*];done)|go_keep)) (first
    |(
     go_at_call 142;apply cM;apply HOV.out;(focus(repeat(first|exact Below.refl _ _|apply Qek|apply Qel)));rintro e5 w5 ⟨⟨g5,us,rfl,hg5,hqb,hmd⟩,hb5⟩;(first
       |have HB5:Hid (Below wr.heap.size wr w5):=Hi hb5
       |have HB5:Hid (Below wr.heap.size wr w5):=Hi (bR.drew.trans hb5))
     have HQB:=Hi hqb;have HMD:=Hi hmd;have y1:=ce HB5.out HC.out.box.lt x1;have y2:=ce HB5.out HC.out.box.lt x2;have y3:=(HB5.out.cell (p:=⟨g,j,none⟩) (HC.out.rows.lt (g:=g) rfl).2).trans c1;have y4:=ce HB5.out hhb c2;have y5:=ce HB5.out hrb d0;have y6:=ce HB5.out hrb d1;have y7:=ce HB5.out hrb d2;clear hqb hmd hb5 hg5
     skip)
    |fail)
   clear x1 x2 c1 c2 d0 d1 d2 y1 y2 y3 y4 y5 y6 y7;have HC5:=Hi (HC.out.below HB5.out);obtain⟨r0,hr0v,hr0ok,hr0q⟩:=MOk.made (v:=fun i=>r.q i / r.q h) (K:=K) HQB.out hrlen (by rw[hrlen];exact HMD.out) hK0 (fun i hi=>by rw[HE.out]) (fun i hi=>by
    show r.q i / r.q h=0
    rw[MR.q_beyond (by omega)]
    exact Qun _) (fun i _=>HFT.out.here i)
   have HR0:=Hi hr0ok;have HR0Q:=Hi hr0q;have HR0V:=Hi hr0v;clear hr0ok hr0q hr0v HQB HMD HOV HC;have hr0v':Value.slice (some ⟨g5,0,none⟩) W W=.slice r0.a W r0.cap:=by
    have:=HR0V.out;unfold MR.val at this;rw[HR0.out.len] at this;exact this.symm
   rw[hr0v'];clear hr0v';go_wp2_with fail;go_loopw [3,4] (fun rv i wq=>∃(m:Nat) (rr:MR),j+1<=m/\m<=S.length/\i=.int .i64 m/\rv=.slice rr.a W rr.cap/\MOk wq W K rr/\CW w wq B W K Sx hs (.int .i64 wd) (.slice (some ⟨g,0,none⟩) S.length cap) (.slice (some ⟨hb,ho,none⟩) hs.length cap2)/\red rr.q ((Sx.drop m).map MR.q) (hs.drop m)=red (fun i=>r.q i / r.q h) ((Sx.drop (j+1)).map MR.q) (hs.drop (j+1))/\redFits K rr.q ((Sx.drop m).map MR.q) (hs.drop m)) (fun _ i _=>S.length - (intOf i).toNat)
   case atStart=>exact⟨j+1,r0,Nat.le_refl _,hk,by go_num,rfl,HR0.out,HC5.out,by rw[HR0Q.out],by rw[HR0Q.out];exact HFT.out⟩
   case round=>
    obtain⟨m,rr,hjm,hm,rfl,rfl,hrr,hC,hred,hrf⟩:=hrel;have HC:=Hi hC;have HRR:=Hi hrr;have HRED:=Hi hred;have HRF:=Hi hrf;clear hC hred hrf;by_cases hml:m<S.length
    ·
     obtain⟨t,ht⟩:∃t,Sx[m]?=some t:=⟨Sx[m]'(by have:=HXL.out;omega),gE (by have:=HXL.out;omega)⟩;obtain⟨hm',hhm⟩:∃hm',hs[m]?=some hm':=⟨hs[m]'(by have:=HL.out;omega),gE (by have:=HL.out;omega)⟩;have htok:=HC.out.ok t (mO ht);have hmW:hm'<W:=HLT.out hm' (mO hhm);have hrl:=hrr.len;have htl:=htok.len;obtain⟨f,hf⟩:∃f,rr.ts[hm']?=some f:=⟨rr.ts[hm']'(by omega),gE (by omega)⟩;obtain⟨qb,qo,hqa,hqb,d0,d1,d2⟩:=hrr.row.at hf;obtain⟨hv1,hvf1,hvk1⟩:=hrr.row.get hf;have hfk:=hrr.sz f (mO hf);obtain⟨o1,o2,o3⟩:=hv1.one;have s0:=Qaa Tryz.prog o1;have s1:=Qaa Tryz.prog o2;have s2:=Qaa Tryz.prog o3;obtain⟨hb',ho',hbe,hhb',c2⟩:=HC.out.heads.crow.cell m (.int .i64 (hm':Nat)) (by simp[headsV,hhm]);cases hbe
     have c1:wr.cell? ⟨g,m,none⟩=some (.slice t.a t.ts.length t.cap):=HC.out.rows.cell (by rw[List.getElem?_map,ht];rfl);rw[htl] at c1;have hgl:g<wr.heap.size:=(HC.out.rows.lt (g:=g) rfl).2;have hbl:=HC.out.box.lt;obtain⟨-,x1,x2,-⟩:=zc HC.out.box;have q4:((m:Int)<(S.length:Int)):=by omega
     have q5:((m:Int)<(hs.length:Int)):=by have:=HL.out;omega
     have q6:((hm':Int)<(W:Int)):=by omega
     have HT:=Hi htok;have HQA:=Hi hqa;have HFQ:=Hi (MR.q_at hf);have HV2:=Hi hv1;have HVF2:=Hi hvf1;have HTX:=Hi (Qc0 ht);have HHX:=Hi (Qc0 hhm);have HLS:=Hi (fun u (hu:Below wr.heap.size wr u)=>Qeg rr.a t.a rr.cap t.cap (4*K+1) f.k rr.ts t.ts f.x f.y f.z f.q u (HRR.out.row.below hu) (HT.out.row.below hu) (by omega) (by omega) (HV2.out.below hu) HVF2.out hvk1 (fun x hx y hy=>by have:=HRR.out.sz x hx;have:=HT.out.sz y hy;omega) (by omega));rw[hrl] at HLS;have HC1:=Hi c1;have X1:=Hi x1;rw[hqa];obtain⟨V2,hV2⟩:=nm (wr.alloc (.cells #[f.x,f.y,f.z] 103));have HBV:Hid (Below wr.heap.size wr V2):=Hi (by rw[<-hV2];exact(Below.refl _ _).alloc lZ _);have HSV:Hid (SB V2 wr.heap.size 103 #[f.x,f.y,f.z]):=Hi (by rw[<-hV2];exact SB.new wr _ _);have HWV:=Hi hV2;clear ht hhm htok hf hqa hv1 hvf1 hV2 o1 o2 o3 hrr;go_wp2_with fail;rw[HWV.out];go_fit (Qbn (HV2.out.below HBV.out))
     rintro e' w4 ⟨rfl,hb4⟩;have HB4:=Hi (HBV.out.trans (hb4.mono HBV.out.size));have HC4:=Hi (HC.out.below HB4.out);have HR4:=Hi (HRR.out.fr (Fr.of_below HB4.out));have HS4:=Hi (HSV.out.below hb4 HSV.out.lt);clear hb4 c1 c2 d0 d1 d2 s0 s1 s2 x1 x2;rw[<-HQA.out];by_cases h0:f.q=0
     ·
      rw[decide_eq_true h0];have HZ:Hid (rr.q hm'=0):=Hi (HFQ.out.trans h0);clear h0;go_wp2;go_roundw
      case rel=>
       have h1:=HRED.out;have h2:=HRF.out;rw[HTX.out,HHX.out,List.map_cons] at h1 h2;rw[Qup HZ.out] at h1;exact⟨m+1,rr,by omega,by omega,by go_num,rfl,HR4.out,HC4.out,h1,h2.skip HZ.out⟩
      case measure=>simp[intOf];omega
     ·
      rw[decide_eq_false h0];clear h0;obtain⟨-,y1,-⟩:=zc HC4.out.box;have y2:=ce HB4.out hgl HC1.out;obtain⟨b0,b1,b2,-⟩:=zc HS4.out;have Y1:=Hi y1;have Y2:=Hi y2;have hgl4:g<w4.heap.size:=Nat.lt_of_lt_of_le hgl HB4.out.size;have hbl4:w.heap.size<w4.heap.size:=Nat.lt_of_lt_of_le hbl HB4.out.size;go_wp2_with fail;go_region_held3 (fun v=>v.cell? ⟨w.heap.size,1,none⟩=some (.slice (some ⟨g,0,none⟩) S.length cap)/\v.cell? ⟨g,m,none⟩=some (.slice t.a W t.cap)/\v.cell? ⟨wr.heap.size,0,none⟩=some f.x/\v.cell? ⟨wr.heap.size,1,none⟩=some f.y/\v.cell? ⟨wr.heap.size,2,none⟩=some f.z) ((first|(simp [*];done)|go_keep)) (first
       |(
        go_at_call 114;apply cM;apply HLS.out;(focus(repeat(first|exact HB4.out|apply Qek|apply Qel)));rintro e6 w6 ⟨⟨g6,us,rfl,hg6,hqb6,hmd⟩,hb6⟩;(first
          |have HB6:Hid (Below w4.heap.size w4 w6):=Hi hb6
          |have HB6:Hid (Below w4.heap.size w4 w6):=Hi (bR.drew.trans hb6))
        have HQB:=Hi hqb6;have HMD:=Hi hmd;have HS6:=Hi (HS4.out.below HB6.out HS4.out.lt);have z1:=ce HB6.out hbl4 Y1.out;have z2:=ce HB6.out hgl4 Y2.out;obtain⟨z3,z4,z5,-⟩:=zc HS6.out;clear hqb6 hmd hb6 hg6
        skip)
       |fail)
      all_goals
       clear y1 y2 b0 b1 b2 z1 z2 z3 z4 z5;have hft:=HRF.out;rw[HTX.out,HHX.out,List.map_cons] at hft;obtain⟨r6,hr6v,hr6ok,hr6q⟩:=MOk.made (v:=fun i=>rr.q i - t.q i*rr.q hm') (K:=K) HQB.out hrl (by rw[hrl];exact HMD.out) hK0 (fun i hi=>by
        show rr.q i - qAt t.ts i*f.q=_
        rw[qAt_q,HFQ.out]) (fun i hi=>by
        show rr.q i - t.q i*rr.q hm'=0
        rw[MR.q_beyond (r:=rr) (by omega),MR.q_beyond (r:=t) (by omega)]
        exact Quo _) (fun i _=>hft.next.here i)
       have hr6v':Value.slice (some ⟨g6,0,none⟩) W W=.slice r6.a W r6.cap:=by
        unfold MR.val at hr6v;rw[hr6ok.len] at hr6v;exact hr6v.symm
       have HN1:Hid (red r6.q ((Sx.drop (m+1)).map MR.q) (hs.drop (m+1))=red (fun i=>r.q i / r.q h) ((Sx.drop (j+1)).map MR.q) (hs.drop (j+1))):=Hi (by
        have h1:=HRED.out;rw[HTX.out,HHX.out,List.map_cons] at h1;rw[hr6q]
        exact h1)
       have HN2:Hid (redFits K r6.q ((Sx.drop (m+1)).map MR.q) (hs.drop (m+1))):=Hi (by rw[hr6q];exact hft.next);have HN3:=Hi hr6ok;have HN4:=Hi hr6v';clear hft hr6v hr6ok hr6q hr6v';go_wp2_with fail;refine⟨⟨m+1,r6,by omega,by omega,by go_num,HN4.out,HN3.out,HC4.out.below HB6.out,HN1.out,HN2.out⟩,?_⟩;simp[intOf];omega
    ·
     have hk':m=S.length:=by omega
     subst hk';have er:rr.val=.slice rr.a W rr.cap:=by unfold MR.val;rw[hrr.len]
     have hq:rr.q=red (fun i=>r.q i / r.q h) ((Sx.drop (j+1)).map MR.q) (hs.drop (j+1)):=by
      have h1:=HRED.out;rw[List.drop_of_length_le (by rw[HXL.out];exact Nat.le_refl _)] at h1
      simpa [red] using h1
     have HER:=Hi er;have HQ:=Hi hq;obtain⟨-,x1,-⟩:=zc HC.out.box;have f0:=HC.out.rows.free j;have t0:wr.cell? ⟨g,j,none⟩=some r.val:=HC.out.rows.cell (by rw[List.getElem?_map,HRX.out];rfl);clear er hq hrr;go_wp2_with fail;refine⟨⟨j,Sx.set j rr,by omega,by go_num,by rw[List.length_set];exact HXL.out,fun p hp=>?_,?_,?_⟩,?_⟩
     · rw[List.getElem?_set_ne (by omega)]
       exact HPRE.out p (by omega)
     ·
      have hjx:j<Sx.length:=by have:=HXL.out;omega
      rw[Qc0 (List.getElem?_set_self hjx),List.drop_set,if_pos (by omega),List.map_cons,HQ.out];exact HCT.out.symm
     · rw[<-HER.out]
       exact HC.out.set HXL.out.symm (by have:=HXL.out;omega) HRR.out
     · simp[intOf]
set_option maxRecDepth 100000 in
set_option maxHeartbeats 4000000 in
theorem Qux(a:Option Addr)(cap K:Nat)(ts:List FE)(w:World)(hg:Glob w)(h:QRow w a cap ts)(hk:∀t,t∈ ts->t.k<=K)(hK:K<=274877906944)(hl:ts.length<=1000):
 Calls Tryz.prog 56 #[.slice a ts.length cap] w fun e w'=>(∃(g:Nat) (ss:List ByteArray),e=.returned (.slice (some ⟨g,0,none⟩) ts.length ts.length)/\(ss.length=ts.length/\w.heap.size<=g)/\SB w' g 40 (textsV ss).toArray/\∀(i:Nat) (t:FE) (s:ByteArray),ts[i]?=some t->ss[i]?=some s->QText s.data.toList t.q)/\Below w.heap.size w w':=by
 have HH:=Hi h;have HGL:=Hi hg;have HK:=Hi hk;have hmk:=fun w=>Qvt ts.length (by omega) w
 obtain⟨MC,hMC⟩:=nm ((textsV (List.replicate ts.length ⟨#[]⟩)).toArray);rw[hMC] at hmk;have HMC:=Hi hMC;clear h hg hk hMC;go_enter Tryz.func56,Tryz.ntmps56;go_wp2_with fail;clear hmk;obtain⟨g,hg⟩:=nm w.heap.size;obtain⟨V,hV⟩:=nm (w.alloc (.cells MC 40));have HB0:Hid (Below g w V):=Hi (by rw[<-hV,<-hg];exact(Below.refl _ _).alloc lZ _);have HQ0:Hid (SB V g 40 (textsV (List.replicate ts.length ⟨#[]⟩)).toArray):=Hi (by rw[<-hV,<-hg,HMC.out];exact SB.new w _ _)
 try rw[hV]
 try rw[hg]
 clear hV;go_loopw [10] (fun i wr=>∃(k:Nat) (ss:List ByteArray),k<=ts.length/\i=.int .i64 k/\ss.length=ts.length/\SB wr g 40 (textsV ss).toArray/\(∀(i:Nat) (t:FE) (s:ByteArray),i<k->ts[i]?=some t->ss[i]?=some s->QText s.data.toList t.q)/\Below g w wr) (fun i _=>ts.length - (intOf i).toNat)
 case atStart=>exact⟨0,_,by omega,rfl,by simp,HQ0.out,fun i t s hi=>by omega,HB0.out⟩
 case round=>
  obtain⟨k,ss,hk,rfl,hsl,hsb,hall,hb⟩:=hrel;have HB:=Hi hb;have HSB:=Hi hsb;have HA:=Hi hall;have hgl:=hsb.lt;have HSL:=Hi hsl;clear hb hsb hall hsl;by_cases hlt:k<ts.length
  ·
   obtain⟨t,ht⟩:∃t,ts[k]?=some t:=⟨ts[k],gE hlt⟩;have hbw:Below w.heap.size w wr:=by rw[hg];exact HB.out
   obtain⟨fb,off,rfl,hfb,d0,d1,d2⟩:=(HH.out.below hbw).at ht;have HTV:=Hi ((HH.out.below hbw).get ht);have HTK:=Hi (HK.out t (mO ht));have HTA:=Hi (HGL.out.below hbw);have q1:((k:Int)<(ts.length:Int)):=by omega
   have HT:=Hi ht;obtain⟨s0,hs0⟩:∃s0,ss[k]?=some s0:=⟨ss[k]'(by have:=HSL.out;omega),gE (by have:=HSL.out;omega)⟩;have HS0:=Hi hs0;clear ht hbw hs0;go_wp2_with fail;go_fit (Qo2 (HTA.out.tab (by unfold hasTen;kernel_rfl)) HTV.out.1 (HTV.out.2.1.mono HTK.out) hK);rintro e w2 ⟨⟨s,rfl,hqt⟩,hb2⟩;have HQT:=Hi hqt;have HB2:=Hi hb2;have HSB2:=Hi (HSB.out.below hb2 HSB.out.lt);have f0:=HSB2.out.free k;have t0:w2.cell? ⟨g,k,none⟩=some (.string s0):=by
    rw[HSB2.out.cell];simp[textsV,HS0.out]
   clear hqt hb2 d0 d1 d2;go_wp2;go_roundw
   case rel=>
    refine⟨k+1,ss.set k s,by omega,by go_num,by rw[List.length_set];exact HSL.out,?_,fun i x y hi hx hy=>?_,(HB.out.trans (HB2.out.mono (Nat.le_of_lt hgl))).setCell (p:=⟨g,k,none⟩) lZ _⟩
    ·
     have:=HSB2.out.set k (.string s);rw[Qvu]
     simpa using this
    ·
     rcases Nat.lt_or_ge i k with h1|h1
     · rw[List.getElem?_set_ne (by omega)] at hy
       exact HA.out i x y h1 hx hy
     ·
      obtain rfl:i=k:=by omega
      rw[List.getElem?_set_self (by have:=HSL.out;omega)] at hy;obtain rfl:=Option.some.inj hy;obtain rfl:=Option.some.inj (HT.out.symm.trans hx);exact HQT.out
   case measure=>simp[intOf];omega
  ·
   have hk':k=ts.length:=by omega
   subst hk';go_wp2;go_ret;rw[hg];exact⟨⟨g,ss,rfl,⟨HSL.out,Nat.le_of_eq rfl⟩,HSB.out,fun i t s ht hs=>HA.out i t s (gZ ht).1 ht hs⟩,HB.out⟩
theorem Quy{w:World}{g K i:Nat}{us:List FE}{x y z:Value}{q:Rat}(h:QBlk w g us)(hi:i<us.length)(hv:FracV w (.agg #[x,y,z]) q)(hf:Fits q K)(hK:0<K):QBlk (((w.setCell ⟨g,i*3,none⟩ x).setCell ⟨g,i*3+1,none⟩ y).setCell ⟨g,i*3+2,none⟩ z) g (us.set i ⟨x,y,z,q,K⟩):=
 h.set (k:=i) (e:=⟨x,y,z,q,K⟩) hi ⟨hv,hf,hK⟩
end Go.Proofs.YtfpcipgoedifaaaGreatDoor
namespace Go.Proofs.YtfpcipgoedifaaaGreatDoor
open Go
set_option linter.unusedVariables false
section
variable {P:Program} {ops:Array Oper} {Q:Exit->Act->World->Prop} {md:Region.Mode} {S:World->Prop} {D:List Nat}
def NoneOf(D:List Nat)(listed:Array Bool):Prop:=∀d∈ D,listed.getD d true=false
theorem NoneOf.set{listed:Array Bool}{j:Nat}(h:NoneOf D listed)(hj:j ∉ D):NoneOf D (listed.setIfInBounds j true):=fun d hd=>by
 have hne:j≠d:=fun e=>hj (e ▸ hd)
 rw[_root_.Go.getD_set_ne true hne];exact h d hd
theorem NoneOf.back{listed:Array Bool}{j:Nat}(h:NoneOf D (listed.setIfInBounds j true)):j ∉ D/\NoneOf D listed:=by
 have hj:j ∉ D:=fun hd=>by
  have:=h j hd;simp at this
 refine⟨hj,fun d hd=>?_⟩;have hne:j≠d:=fun e=>hj (e ▸ hd)
 have:=h d hd;rw[_root_.Go.getD_set_ne true hne] at this;exact this
def AnyDs(P:Program)(md:Region.Mode)(ops:Array Oper)(Q:Exit->Act->World->Prop)(S:World->Prop)(D:List Nat):Nat->Array Bool->Act->World->Prop
 |0,listed,a,w=>Region.ready md ops listed= []/\Q .normal a w
 |fuel+1,listed,a,w=>(Region.ready md ops listed= []->Q .normal a w)/\∀i∈ Region.ready md ops listed,wpOp P ops Q i (fun a' w'=>(i ∉ D->NoneOf D listed->S w')/\AnyDs P md ops Q S D fuel (listed.setIfInBounds i true) a' w') a w
theorem AnyDs.any:∀(fuel:Nat) (listed:Array Bool) (a:Act) (w:World),AnyDs P md ops Q S D fuel listed a w->wpAny P md ops Q fuel listed a w
 |0,_,_,_,h=>h
 |fuel+1,_,_,_,h=>⟨h.1,fun i hi=>wpOp_mono (fun a' w' h'=>AnyDs.any fuel _ a' w' h'.2) (h.2 i hi)⟩
theorem Qft{i j:Nat}{listed:Array Bool}{oj:Oper}(hr:i∈ Region.ready md ops listed)(hall:∀e∈ oj.after,Region.binds md e=true->listed.getD e.on false=true):∀e∈ oj.after,Region.binds md e=true->e.on≠i:=fun e he hb heq=>by
 have h1:=hall e he hb;have h0:=(mem_ready.1 hr).1;rw[heq] at h1;rcases Nat.lt_or_ge i listed.size with h'|h'
 · simp[h'] at h0 h1;rw[h0] at h1;cases h1
 · simp[Array.getElem?_eq_none h'] at h1
theorem AnyDs.first{i:Nat}{oi:Oper}{v:Value}(hi:ops[i]?=some oi)(hsel:∀(j:Nat) (o:Oper) cs b,ops[j]?=some o->o.op≠.select cs b)
 (hQ:∀c a w,Q (.panic c) (a.put oi.dst v) w->Q (.panic c) a w) (hk:D.all (fun k=>waits md ops k i)=true):
 ∀(fuel:Nat) (listed:Array Bool) (a:Act) (w:World),
  (∀j oj,ops[j]?=some oj->j≠i->listed.getD j true=false->(∀e∈ oj.after,Region.binds md e=true->e.on≠i)->oi.apart ops oj=true)->
  i∈ Region.ready md ops listed->YieldsIf P ops S oi v a->NoneOf D listed->S w->
  AnyDs P md ops Q S D fuel (listed.setIfInBounds i true) (a.put oi.dst v) w->AnyDs P md ops Q S D (fuel+1) listed a w:=by
 intro fuel
 induction fuel with
 |zero=>
  intro listed a w _ hr hy hN hS H;refine⟨fun h=>(by rw[h] at hr;cases hr),fun j hj=>?_⟩;by_cases hji:j=i
  · subst hji;exact hy.wpOp hi hS ⟨fun _ _=>hS,H⟩
  ·
   have:=ready_mono hj hji;rw[H.1] at this;cases this
 |succ fuel ih=>
  intro listed a w hfree hr hy hN hS H;refine⟨fun h=>(by rw[h] at hr;cases hr),fun j hj=>?_⟩;by_cases hji:j=i
  · subst hji;exact hy.wpOp hi hS ⟨fun _ _=>hS,H⟩
  ·
   have h1:=H.2 j (ready_mono hj hji);obtain⟨hjun,oj,hoj,hall⟩:=mem_ready.1 hj;have hnot:=Qft (j:=j) hr hall;have hjk:j ∉ D:=fun e=>Qjp (k:=j) (List.all_eq_true.1 hk j e) hoj hnot
   have hiD:NoneOf D (listed.setIfInBounds i true):=hN.set (fun e=>by
    obtain⟨_,oi',hoi',hall'⟩:=mem_ready.1 hr
    exact Qjp (k:=i) (List.all_eq_true.1 hk i e) hoi' (Qft (j:=i) hr hall'))
   have h2:=wpOp_putIf hoj (hfree j oj hoj hji hjun hnot) (fun cs b=>hsel i oi cs b hi) (fun cs b=>hsel j oj cs b hoj) hQ hy h1;have hfree':∀m om,ops[m]?=some om->m≠i->(listed.setIfInBounds j true).getD m true=false->
    (∀e∈ om.after,Region.binds md e=true->e.on≠i)->oi.apart ops om=true:=fun m om hm hmi hun hno=>by
    refine hfree m om hm hmi ?_ hno;by_cases hjm:j=m
    · subst hjm;exact hjun
    · rw[_root_.Go.getD_set_ne true hjm] at hun;exact hun
   refine wpOp_mono (fun a' w' h3=>⟨fun hj' _=>h3.2.1 hj' hiD,ih (listed.setIfInBounds j true) a' w' hfree' (ready_mono hr (Ne.symm hji)) h3.1 (hN.set hjk) (h3.2.1 hjk hiD) ?_⟩) h2;rw[Array.setIfInBounds_comm _ _ hji];exact h3.2.2
theorem AnyDs.firstP{i:Nat}{oi:Oper}{v:Value}(hi:ops[i]?=some oi)(hsel:∀(j:Nat) (o:Oper) cs b,ops[j]?=some o->o.op≠.select cs b)
 (hQ:∀c a w,Q (.panic c) (a.put oi.dst v) w->Q (.panic c) a w) (hiD:i ∉ D):
 ∀(fuel:Nat) (listed:Array Bool) (a:Act) (w:World),
  (∀j oj,ops[j]?=some oj->j≠i->listed.getD j true=false->(∀e∈ oj.after,Region.binds md e=true->e.on≠i)->oi.apart ops oj=true)->
  i∈ Region.ready md ops listed->YieldsIf P ops (fun _=>True) oi v a->(NoneOf D listed->S w)->
  AnyDs P md ops Q S D fuel (listed.setIfInBounds i true) (a.put oi.dst v) w->AnyDs P md ops Q S D (fuel+1) listed a w:=by
 intro fuel
 induction fuel with
 |zero=>
  intro listed a w _ hr hy hS H;refine⟨fun h=>(by rw[h] at hr;cases hr),fun j hj=>?_⟩;by_cases hji:j=i
  · subst hji;exact hy.wpOp hi trivial ⟨fun _=>hS,H⟩
  ·
   have:=ready_mono hj hji;rw[H.1] at this;cases this
 |succ fuel ih=>
  intro listed a w hfree hr hy hS H;refine⟨fun h=>(by rw[h] at hr;cases hr),fun j hj=>?_⟩;by_cases hji:j=i
  · subst hji;exact hy.wpOp hi trivial ⟨fun _=>hS,H⟩
  ·
   have h1:=H.2 j (ready_mono hj hji);obtain⟨hjun,oj,hoj,hall⟩:=mem_ready.1 hj;have hnot:=Qft (j:=j) hr hall;have h2:=wpOp_putIf hoj (hfree j oj hoj hji hjun hnot) (fun cs b=>hsel i oi cs b hi) (fun cs b=>hsel j oj cs b hoj) hQ hy h1;have hfree':∀m om,ops[m]?=some om->m≠i->(listed.setIfInBounds j true).getD m true=false->
    (∀e∈ om.after,Region.binds md e=true->e.on≠i)->oi.apart ops om=true:=fun m om hm hmi hun hno=>by
    refine hfree m om hm hmi ?_ hno;by_cases hjm:j=m
    · subst hjm;exact hjun
    · rw[_root_.Go.getD_set_ne true hjm] at hun;exact hun
   refine wpOp_mono (fun a' w' h3=>⟨?_,ih (listed.setIfInBounds j true) a' w' hfree' (ready_mono hr (Ne.symm hji)) h3.1 ?_ ?_⟩) h2
   · intro hj' hN
     exact h3.2.1 hj' (hN.set hiD)
   · intro hN
     exact h3.2.1 hN.back.1 (hN.back.2.set hiD)
   · rw[Array.setIfInBounds_comm _ _ hji]
     exact h3.2.2
theorem Qrk{listed:Array Bool}(h:D.all (fun d=>!(listed.getD d true))=true):NoneOf D listed:=fun d hd=>by
 have:=List.all_eq_true.1 h d hd
 simpa using this
theorem Qfu{listed:Array Bool}{d:Nat}(hd:D.contains d=true)(h:listed.getD d true=true):¬NoneOf D listed:=fun hN=>by
 have:=hN d (by simpa using hd);rw[h] at this;cases this
theorem AnyDs.take{i:Nat}{oi:Oper}{v:Value}{fuel:Nat}{listed:Array Bool}{a:Act}{w:World}(hi:ops[i]?=some oi)
 (hs:Region.noSelect ops=true) (hf:Region.free md ops listed i=true) (hr:(Region.ready md ops listed).contains i=true) (hk:D.all (fun k=>waits md ops k i)=true) (hn:D.all (fun d=>!(listed.getD d true))=true)
 (hQ:∀c a w,Q (.panic c) (a.put oi.dst v) w->Q (.panic c) a w) (hy:YieldsIf P ops S oi v a) (hS:S w)
 (h:AnyDs P md ops Q S D fuel (listed.setIfInBounds i true) (a.put oi.dst v) w):AnyDs P md ops Q S D (fuel+1) listed a w:=
 AnyDs.first hi (Region.noSelect_spec hs) hQ hk fuel listed a w (Region.free_spec hi hf) (by simpa using hr) hy (Qrk hn) hS h
theorem AnyDs.takeP{i:Nat}{oi:Oper}{v:Value}{fuel:Nat}{listed:Array Bool}{a:Act}{w:World}(hi:ops[i]?=some oi)
 (hs:Region.noSelect ops=true) (hf:Region.free md ops listed i=true) (hr:(Region.ready md ops listed).contains i=true) (hd:D.contains i=false)
 (hQ:∀c a w,Q (.panic c) (a.put oi.dst v) w->Q (.panic c) a w) (hy:YieldsIf P ops (fun _=>True) oi v a) (hS:NoneOf D listed->S w)
 (h:AnyDs P md ops Q S D fuel (listed.setIfInBounds i true) (a.put oi.dst v) w):AnyDs P md ops Q S D (fuel+1) listed a w:=
 AnyDs.firstP hi (Region.noSelect_spec hs) hQ (fun hm=>by rw[List.contains_iff_mem.2 hm] at hd;cases hd) fuel listed a w (Region.free_spec hi hf) (by simpa using hr) hy hS h
def AllDs(P:Program)(md:Region.Mode)(ops:Array Oper)(Q:Exit->Act->World->Prop)(S:World->Prop)(D:List Nat)(fuel:Nat)(listed:Array Bool)(a:Act)(w:World)(rs:List Nat):Prop:=
 ∀i∈ rs,wpOp P ops Q i (fun a' w'=>(i ∉ D->NoneOf D listed->S w')/\AnyDs P md ops Q S D fuel (listed.setIfInBounds i true) a' w') a w
theorem AllDs.nil{fuel:Nat}{listed:Array Bool}{a:Act}{w:World}:AllDs P md ops Q S D fuel listed a w []:=fun _ h=>by cases h
theorem AllDs.cons{fuel:Nat}{listed:Array Bool}{a:Act}{w:World}{i:Nat}{o:Oper}{rs:List Nat}(ho:ops[i]?=some o)
 (h:∀K':Act->World->Prop,Shut (∀a w,(i ∉ D->NoneOf D listed->S w)->AnyDs P md ops Q S D fuel (listed.setIfInBounds i true) a w->K' a w)->if Region.wanted o (yielded ops a.tmps)=true then Oper.wp P o a w K' Q else K' (a.put o.dst undef) w)
 (hs:AllDs P md ops Q S D fuel listed a w rs):AllDs P md ops Q S D fuel listed a w (i :: rs):=fun j hj=>by
 rcases List.mem_cons.1 hj with rfl|hj
 · exact wpOp_step ho (fun K' hK=>h K' (fun a w hS hW=>hK a w ⟨hS,hW⟩))
 · exact hs j hj
theorem AnyDs.ready{rs:List Nat}{fuel:Nat}{listed:Array Bool}{a:Act}{w:World}(hr:Region.ready md ops listed=rs)(hne:rs≠ [])
 (h:AllDs P md ops Q S D fuel listed a w rs):AnyDs P md ops Q S D (fuel+1) listed a w:=by
 refine⟨(fun h0=>by rw[hr] at h0;exact absurd h0 hne),fun j hj=>?_⟩;rw[hr] at hj;exact h j hj
theorem AnyDs.done{listed:Array Bool}{a:Act}{w:World}(hr:Region.ready md ops listed= [])(h:Q .normal a w):∀fuel,AnyDs P md ops Q S D fuel listed a w
 |0=>⟨hr,h⟩
 |_+1=>⟨fun _=>h,by rw[hr];simp⟩
theorem AnyDs.begin{id:Nat}{a:Act}{w:World}(hm:P.follows .mixedOrders=true)
 (h:AnyDs P .any ops Q S D ops.size (Array.replicate ops.size false) a w.drew):(Code.region id ops true).wp P Q a w:=
 wp_region_any hm (AnyDs.any _ _ _ _ h)
end
end Go.Proofs.YtfpcipgoedifaaaGreatDoor
