/- package still: stressOf. -/
import Derived.Test.YtbbkamnfjejceaaGreatDoorR38RowsO
namespace Go.Proofs.YtbbkamnfjejceaaGreatDoor
open Go.RowKit
set_option linter.unusedVariables false
set_option linter.unusedSimpArgs false
set_option maxRecDepth 100000 in
set_option maxHeartbeats 4000000 in
theorem Qrc(B W K:Nat)(S:List MR)(hs:List Nat)(sv hv:Value)(wd:Int)(w:World)(hr:Grow w B 167 1 IsSl sv S.length (S.map MR.val))(hh:Grow w B 3 1 IsI hv hs.length (headsV hs))(hok:Oks w W K S)(hlen:S.length=hs.length)(hlt:∀h,h∈ hs→h<W)(hfit:clnFits K (S.map MR.q) hs)(hSl:S.length≤1000)(hW:W≤1000)(hK0:0<K)(hK:4*K+1<68719476000):
 Calls Tryz.prog 175 #[.agg #[.int .i64 wd,sv,hv]] w fun e w'=>e=.returned (.tuple #[])∧∃S':List MR,S'.length=S.length∧S'.map MR.q=cln (S.map MR.q) hs∧CW w w' B W K S' hs (.int .i64 wd) sv hv:=by
 obtain⟨a,cap,rfl,_,_,hpos⟩:=hr.slice;obtain⟨a2,cap2,rfl,_,_,_⟩:=hh.slice;have HR:=Hi hr;have HH:=Hi hh;have HO:=Hi hok;have HL:=Hi hlen;have HLT:=Hi hlt;have HF:=Hi hfit;have HP:=Hi hpos;clear hr hh hok hlen hlt hfit hpos;go_enter Tryz.func175,Tryz.ntmps175;obtain⟨V,hV⟩:∃V,w.alloc (.cells #[.int .i64 wd,.slice a S.length cap,.slice a2 hs.length cap2] 183)=V:=⟨_,rfl⟩;have hb0:Below w.heap.size w V:=by rw[←hV];exact(Below.refl _ _).alloc (Nat.le_refl _) _
 have HC0:Hid (CW w V B W K S hs (.int .i64 wd) (.slice a S.length cap) (.slice a2 hs.length cap2)):=Hi ⟨by rw[←hV];exact SB.new w _ _,HR.out.below hb0,HH.out.below hb0,HO.out.fr (Fr.of_below hb0),fun k hk _=>hb0.block k hk,hb0.os,hb0.tape,hb0.output,hb0.size⟩;have HV:=Hi hV;clear hV hb0;go_wp2_with fail;rw[HV.out];go_loopw [2] (fun i wr=>∃(k:Nat) (Sx:List MR),k≤S.length∧i=.int .i64 ((k:Int) - 1)∧Sx.length=S.length∧(∀p,p<k→Sx[p]?=S[p]?)∧(Sx.drop k).map MR.q=cln ((S.map MR.q).drop k) (hs.drop k)∧CW w wr B W K Sx hs (.int .i64 wd) (.slice a S.length cap) (.slice a2 hs.length cap2)) (fun i _=>(intOf i+1).toNat)
 case atStart=>
  refine⟨S.length,S,Nat.le_refl _,by go_num,rfl,fun _ _=>rfl,?_,HC0.out⟩;rw[List.drop_of_length_le (Nat.le_refl _),List.drop_of_length_le (by simp)];rfl
 case round=>
  obtain⟨k,Sx,hk,rfl,hxl,hpre,hdr,hC⟩:=hrel;have HC:=Hi hC;have HPRE:=Hi hpre;have HDR:=Hi hdr;have HXL:=Hi hxl;clear hC hpre hdr hxl;by_cases h0:k=0
  ·
   subst h0;go_wp2;go_end0;exact⟨rfl,Sx,HXL.out,by have:=HDR.out;simpa using this,HC.out⟩
  ·
   obtain⟨j,rfl⟩:∃j,k=j+1:=⟨k - 1,by omega⟩;have ej:((j+1:Nat):Int) - 1=(j:Int):=by omega
   rw[ej];clear ej h0;obtain⟨g,rfl,hgo⟩:=HP.out (by omega);clear hgo;obtain⟨r,hr⟩:∃r,S[j]?=some r:=⟨S[j]'(by omega),List.getElem?_eq_getElem (by omega)⟩;obtain⟨h,hh⟩:∃h,hs[j]?=some h:=⟨hs[j]'(by have:=HL.out;omega),List.getElem?_eq_getElem (by have:=HL.out;omega)⟩;have hhW:h<W:=HLT.out h (List.mem_of_getElem? hh);have hrx:Sx[j]?=some r:=by rw[HPRE.out j (by omega)];exact hr
   obtain⟨hct,hft⟩:=Qrb HL.out hr hh HDR.out HF.out;have HCT:=Hi hct;have HFT:=Hi hft;have hrok:=HC.out.ok r (List.mem_of_getElem? hrx);have hrlen:=hrok.len;obtain⟨e,he⟩:∃e,r.ts[h]?=some e:=⟨r.ts[h]'(by omega),List.getElem?_eq_getElem (by omega)⟩;obtain⟨rb,ro,hra,hrb,d0,d1,d2⟩:=hrok.row.at he;obtain⟨hv,hvf,hvk⟩:=hrok.row.get he;have hek:=hrok.sz e (List.mem_of_getElem? he);obtain⟨hb,ho,rfl,hhb,c2⟩:=HC.out.heads.crow.cell j (.int .i64 (h:Nat)) (by simp[headsV,hh]);have c1:wr.cell? ⟨g,j,none⟩=some (.slice r.a r.ts.length r.cap):=HC.out.rows.cell (by rw[List.getElem?_map,hrx];rfl);rw[hra,hrlen] at c1;have x1:wr.cell? ⟨w.heap.size,1,none⟩=some (.slice (some ⟨g,0,none⟩) S.length cap):=HC.out.box.cell 1;have x2:wr.cell? ⟨w.heap.size,2,none⟩=some (.slice (some ⟨hb,ho,none⟩) hs.length cap2):=HC.out.box.cell 2;have q1:((j:Int)<(S.length:Int)):=by omega
   have q2:((j:Int)<(hs.length:Int)):=by have:=HL.out;omega
   have q3:((h:Int)<(W:Int)):=by omega
   have HRO:=Hi hrok;have HRA:=Hi hra;have HE:=Hi (MR.q_at he);have HV1:=Hi hv;have HVF:=Hi hvf;have HOV:=Hi (fun u (hu:Below wr.heap.size wr u)=>Qqi r.a r.cap (2*K) e.k r.ts e.x e.y e.z e.q u (HRO.out.row.below hu) (by omega) (HV1.out.below hu) HVF.out hvk (fun t ht=>by have:=HRO.out.sz t ht;omega) (by omega));rw[hrlen,hra] at HOV;have HRX:=Hi hrx;clear hr hh hrx hct hft hrok he hra hv hvf;go_wp2_with fail;go_region_held3 (fun v=>v.cell? ⟨w.heap.size,1,none⟩=some (.slice (some ⟨g,0,none⟩) S.length cap)∧v.cell? ⟨w.heap.size,2,none⟩=some (.slice (some ⟨hb,ho,none⟩) hs.length cap2)∧v.cell? ⟨g,j,none⟩=some (.slice (some ⟨rb,ro,none⟩) W r.cap)∧v.cell? ⟨hb,ho+j,none⟩=some (.int .i64 h)∧v.cell? ⟨rb,ro+h*3,none⟩=some e.x∧v.cell? ⟨rb,ro+h*3+1,none⟩=some e.y∧v.cell? ⟨rb,ro+h*3+2,none⟩=some e.z) ((first|(simp [*];done)|go_keep)) (first
    |(
     go_at_call 215;apply Calls.mono;apply HOV.out;(focus(repeat(first|exact Below.refl _ _|apply Qbe|apply Qbf)));rintro e5 w5 ⟨⟨g5,us,rfl,hg5,hqb,hmd⟩,hb5⟩;(first
       |have HB5:Hid (Below wr.heap.size wr w5):=Hi hb5
       |have HB5:Hid (Below wr.heap.size wr w5):=Hi ((Below.refl _ _).drew.trans hb5))
     have HQB:=Hi hqb;have HMD:=Hi hmd;have y1:=(HB5.out.cell (p:=⟨w.heap.size,1,none⟩) HC.out.box.lt).trans x1;have y2:=(HB5.out.cell (p:=⟨w.heap.size,2,none⟩) HC.out.box.lt).trans x2;have y3:=(HB5.out.cell (p:=⟨g,j,none⟩) (HC.out.rows.lt (g:=g) rfl).2).trans c1;have y4:=(HB5.out.cell (p:=⟨hb,ho+j,none⟩) hhb).trans c2;have y5:=(HB5.out.cell (p:=⟨rb,ro+h*3,none⟩) hrb).trans d0;have y6:=(HB5.out.cell (p:=⟨rb,ro+h*3+1,none⟩) hrb).trans d1;have y7:=(HB5.out.cell (p:=⟨rb,ro+h*3+2,none⟩) hrb).trans d2;clear hqb hmd hb5 hg5
     skip)
    |fail)
   clear x1 x2 c1 c2 d0 d1 d2 y1 y2 y3 y4 y5 y6 y7;have HC5:=Hi (HC.out.below HB5.out);obtain⟨r0,hr0v,hr0ok,hr0q⟩:=MOk.made (v:=fun i=>r.q i / r.q h) (K:=K) HQB.out hrlen (by rw[hrlen];exact HMD.out) hK0 (fun i hi=>by rw[HE.out]) (fun i hi=>by
    show r.q i / r.q h=0
    rw[MR.q_beyond (by omega)]
    exact Qq8 _) (fun i _=>HFT.out.here i)
   have HR0:=Hi hr0ok;have HR0Q:=Hi hr0q;have HR0V:=Hi hr0v;clear hr0ok hr0q hr0v HQB HMD HOV HC;have hr0v':Value.slice (some ⟨g5,0,none⟩) W W=.slice r0.a W r0.cap:=by
    have:=HR0V.out;unfold MR.val at this;rw[HR0.out.len] at this;exact this.symm
   rw[hr0v'];clear hr0v';go_wp2_with fail;go_loopw [3,4] (fun rv i wq=>∃(m:Nat) (rr:MR),j+1≤m∧m≤S.length∧i=.int .i64 m∧rv=.slice rr.a W rr.cap∧MOk wq W K rr∧CW w wq B W K Sx hs (.int .i64 wd) (.slice (some ⟨g,0,none⟩) S.length cap) (.slice (some ⟨hb,ho,none⟩) hs.length cap2)∧red rr.q ((Sx.drop m).map MR.q) (hs.drop m)=red (fun i=>r.q i / r.q h) ((Sx.drop (j+1)).map MR.q) (hs.drop (j+1))∧redFits K rr.q ((Sx.drop m).map MR.q) (hs.drop m)) (fun _ i _=>S.length - (intOf i).toNat)
   case atStart=>exact⟨j+1,r0,Nat.le_refl _,hk,by go_num,rfl,HR0.out,HC5.out,by rw[HR0Q.out],by rw[HR0Q.out];exact HFT.out⟩
   case round=>
    obtain⟨m,rr,hjm,hm,rfl,rfl,hrr,hC,hred,hrf⟩:=hrel;have HC:=Hi hC;have HRR:=Hi hrr;have HRED:=Hi hred;have HRF:=Hi hrf;clear hC hred hrf;by_cases hml:m<S.length
    ·
     obtain⟨t,ht⟩:∃t,Sx[m]?=some t:=⟨Sx[m]'(by have:=HXL.out;omega),List.getElem?_eq_getElem (by have:=HXL.out;omega)⟩;obtain⟨hm',hhm⟩:∃hm',hs[m]?=some hm':=⟨hs[m]'(by have:=HL.out;omega),List.getElem?_eq_getElem (by have:=HL.out;omega)⟩;have htok:=HC.out.ok t (List.mem_of_getElem? ht);have hmW:hm'<W:=HLT.out hm' (List.mem_of_getElem? hhm);have hrl:=hrr.len;have htl:=htok.len;obtain⟨f,hf⟩:∃f,rr.ts[hm']?=some f:=⟨rr.ts[hm']'(by omega),List.getElem?_eq_getElem (by omega)⟩;obtain⟨qb,qo,hqa,hqb,d0,d1,d2⟩:=hrr.row.at hf;obtain⟨hv1,hvf1,hvk1⟩:=hrr.row.get hf;have hfk:=hrr.sz f (List.mem_of_getElem? hf);obtain⟨o1,o2,o3⟩:=hv1.one;have s0:=Qap Tryz.prog o1;have s1:=Qap Tryz.prog o2;have s2:=Qap Tryz.prog o3;obtain⟨hb',ho',hbe,hhb',c2⟩:=HC.out.heads.crow.cell m (.int .i64 (hm':Nat)) (by simp[headsV,hhm]);cases hbe
     have c1:wr.cell? ⟨g,m,none⟩=some (.slice t.a t.ts.length t.cap):=HC.out.rows.cell (by rw[List.getElem?_map,ht];rfl);rw[htl] at c1;have hgl:g<wr.heap.size:=(HC.out.rows.lt (g:=g) rfl).2;have hbl:=HC.out.box.lt;have x1:wr.cell? ⟨w.heap.size,1,none⟩=some (.slice (some ⟨g,0,none⟩) S.length cap):=HC.out.box.cell 1;have x2:wr.cell? ⟨w.heap.size,2,none⟩=some (.slice (some ⟨hb,ho,none⟩) hs.length cap2):=HC.out.box.cell 2;have q4:((m:Int)<(S.length:Int)):=by omega
     have q5:((m:Int)<(hs.length:Int)):=by have:=HL.out;omega
     have q6:((hm':Int)<(W:Int)):=by omega
     have HT:=Hi htok;have HQA:=Hi hqa;have HFQ:=Hi (MR.q_at hf);have HV2:=Hi hv1;have HVF2:=Hi hvf1;have HTX:=Hi (Qct ht);have HHX:=Hi (Qct hhm);have HLS:=Hi (fun u (hu:Below wr.heap.size wr u)=>Qfn rr.a t.a rr.cap t.cap (4*K+1) f.k rr.ts t.ts f.x f.y f.z f.q u (HRR.out.row.below hu) (HT.out.row.below hu) (by omega) (by omega) (HV2.out.below hu) HVF2.out hvk1 (fun x hx y hy=>by have:=HRR.out.sz x hx;have:=HT.out.sz y hy;omega) (by omega));rw[hrl] at HLS;have HC1:=Hi c1;have X1:=Hi x1;rw[hqa];obtain⟨V2,hV2⟩:∃V2,wr.alloc (.cells #[f.x,f.y,f.z] 77)=V2:=⟨_,rfl⟩;have HBV:Hid (Below wr.heap.size wr V2):=Hi (by rw[←hV2];exact(Below.refl _ _).alloc (Nat.le_refl _) _);have HSV:Hid (SB V2 wr.heap.size 77 #[f.x,f.y,f.z]):=Hi (by rw[←hV2];exact SB.new wr _ _);have HWV:=Hi hV2;clear ht hhm htok hf hqa hv1 hvf1 hV2 o1 o2 o3 hrr;go_wp2_with fail;rw[HWV.out];go_fit (Qby (HV2.out.below HBV.out))
     rintro e' w4 ⟨rfl,hb4⟩;have HB4:=Hi (HBV.out.trans (hb4.mono HBV.out.size));have HC4:=Hi (HC.out.below HB4.out);have HR4:=Hi (HRR.out.fr (Fr.of_below HB4.out));have HS4:=Hi (HSV.out.below hb4 HSV.out.lt);clear hb4 c1 c2 d0 d1 d2 s0 s1 s2 x1 x2;rw[←HQA.out];by_cases h0:f.q=0
     ·
      rw[decide_eq_true h0];have HZ:Hid (rr.q hm'=0):=Hi (HFQ.out.trans h0);clear h0;go_wp2;go_roundw
      case rel=>
       have h1:=HRED.out;have h2:=HRF.out;rw[HTX.out,HHX.out,List.map_cons] at h1 h2;rw[Qra HZ.out] at h1;exact⟨m+1,rr,by omega,by omega,by go_num,rfl,HR4.out,HC4.out,h1,h2.skip HZ.out⟩
      case measure=>simp[intOf];omega
     ·
      rw[decide_eq_false h0];clear h0;have y1:w4.cell? ⟨w.heap.size,1,none⟩=some (.slice (some ⟨g,0,none⟩) S.length cap):=HC4.out.box.cell 1;have y2:=(HB4.out.cell (p:=⟨g,m,none⟩) hgl).trans HC1.out;have b0:w4.cell? ⟨wr.heap.size,0,none⟩=some f.x:=HS4.out.cell 0;have b1:w4.cell? ⟨wr.heap.size,1,none⟩=some f.y:=HS4.out.cell 1;have b2:w4.cell? ⟨wr.heap.size,2,none⟩=some f.z:=HS4.out.cell 2;have Y1:=Hi y1;have Y2:=Hi y2;have hgl4:g<w4.heap.size:=Nat.lt_of_lt_of_le hgl HB4.out.size;have hbl4:w.heap.size<w4.heap.size:=Nat.lt_of_lt_of_le hbl HB4.out.size;go_wp2_with fail;go_region_held3 (fun v=>v.cell? ⟨w.heap.size,1,none⟩=some (.slice (some ⟨g,0,none⟩) S.length cap)∧v.cell? ⟨g,m,none⟩=some (.slice t.a W t.cap)∧v.cell? ⟨wr.heap.size,0,none⟩=some f.x∧v.cell? ⟨wr.heap.size,1,none⟩=some f.y∧v.cell? ⟨wr.heap.size,2,none⟩=some f.z) ((first|(simp [*];done)|go_keep)) (first
       |(
        go_at_call 180;apply Calls.mono;apply HLS.out;(focus(repeat(first|exact HB4.out|apply Qbe|apply Qbf)));rintro e6 w6 ⟨⟨g6,us,rfl,hg6,hqb6,hmd⟩,hb6⟩;(first
          |have HB6:Hid (Below w4.heap.size w4 w6):=Hi hb6
          |have HB6:Hid (Below w4.heap.size w4 w6):=Hi ((Below.refl _ _).drew.trans hb6))
        have HQB:=Hi hqb6;have HMD:=Hi hmd;have HS6:=Hi (HS4.out.below HB6.out HS4.out.lt);have z1:=(HB6.out.cell (p:=⟨w.heap.size,1,none⟩) hbl4).trans Y1.out;have z2:=(HB6.out.cell (p:=⟨g,m,none⟩) hgl4).trans Y2.out;have z3:w6.cell? ⟨wr.heap.size,0,none⟩=some f.x:=HS6.out.cell 0;have z4:w6.cell? ⟨wr.heap.size,1,none⟩=some f.y:=HS6.out.cell 1;have z5:w6.cell? ⟨wr.heap.size,2,none⟩=some f.z:=HS6.out.cell 2;clear hqb6 hmd hb6 hg6
        skip)
       |fail)
      all_goals
       clear y1 y2 b0 b1 b2 z1 z2 z3 z4 z5;have hft:=HRF.out;rw[HTX.out,HHX.out,List.map_cons] at hft;obtain⟨r6,hr6v,hr6ok,hr6q⟩:=MOk.made (v:=fun i=>rr.q i - t.q i*rr.q hm') (K:=K) HQB.out hrl (by rw[hrl];exact HMD.out) hK0 (fun i hi=>by
        show rr.q i - qAt t.ts i*f.q=_
        rw[qAt_q,HFQ.out]) (fun i hi=>by
        show rr.q i - t.q i*rr.q hm'=0
        rw[MR.q_beyond (r:=rr) (by omega),MR.q_beyond (r:=t) (by omega)]
        exact Qq9 _) (fun i _=>hft.next.here i)
       have hr6v':Value.slice (some ⟨g6,0,none⟩) W W=.slice r6.a W r6.cap:=by
        unfold MR.val at hr6v;rw[hr6ok.len] at hr6v;exact hr6v.symm
       have HN1:Hid (red r6.q ((Sx.drop (m+1)).map MR.q) (hs.drop (m+1))=red (fun i=>r.q i / r.q h) ((Sx.drop (j+1)).map MR.q) (hs.drop (j+1))):=Hi (by
        have h1:=HRED.out;rw[HTX.out,HHX.out,List.map_cons] at h1;rw[hr6q]
        exact h1)
       have HN2:Hid (redFits K r6.q ((Sx.drop (m+1)).map MR.q) (hs.drop (m+1))):=Hi (by rw[hr6q];exact hft.next);have HN3:=Hi hr6ok;have HN4:=Hi hr6v';clear hft hr6v hr6ok hr6q hr6v';go_wp2_with fail;refine⟨⟨m+1,r6,by omega,by omega,by go_num,HN4.out,HN3.out,HC4.out.below HB6.out,HN1.out,HN2.out⟩,?_⟩;simp[intOf];omega
    ·
     have hk':m=S.length:=by omega
     subst hk';have er:rr.val=.slice rr.a W rr.cap:=by unfold MR.val;rw[hrr.len]
     have hq:rr.q=red (fun i=>r.q i / r.q h) ((Sx.drop (j+1)).map MR.q) (hs.drop (j+1)):=by
      have h1:=HRED.out;rw[List.drop_of_length_le (by rw[HXL.out];exact Nat.le_refl _)] at h1
      simpa [red] using h1
     have HER:=Hi er;have HQ:=Hi hq;have x1:wr.cell? ⟨w.heap.size,1,none⟩=some (.slice (some ⟨g,0,none⟩) S.length cap):=HC.out.box.cell 1;have f0:=HC.out.rows.free j;have t0:wr.cell? ⟨g,j,none⟩=some r.val:=HC.out.rows.cell (by rw[List.getElem?_map,HRX.out];rfl);clear er hq hrr;go_wp2_with fail;refine⟨⟨j,Sx.set j rr,by omega,by go_num,by rw[List.length_set];exact HXL.out,fun p hp=>?_,?_,?_⟩,?_⟩
     · rw[List.getElem?_set_ne (by omega)]
       exact HPRE.out p (by omega)
     ·
      have hjx:j<Sx.length:=by have:=HXL.out;omega
      rw[Qct (List.getElem?_set_self hjx),List.drop_set,if_pos (by omega),List.map_cons,HQ.out];exact HCT.out.symm
     · rw[←HER.out]
       exact HC.out.set HXL.out.symm (by have:=HXL.out;omega) HRR.out
     · simp[intOf]
theorem Qri:(Tryz.prog.info? 23).map (fun i=>(i.zero,i.size,i.bytes))=some (some (.string ⟨#[]⟩),1,16):=by kernel_rfl
def textsV(ss:List ByteArray):List Value:=ss.map Value.string
theorem Qrj(n:Nat):madeCells (Value.cells (.string ⟨#[]⟩)) n=(textsV (List.replicate n ⟨#[]⟩)).toArray:=by
 have e:Value.cells (.string ⟨#[]⟩)=#[.string ⟨#[]⟩]:=by rfl
 rw[e];apply Array.ext';rw[toList_madeCells_one];simp[textsV]
theorem Qrk(n:Nat)(hn:n≤1048576)(w:World):(Instr.makeSlice 109 (.int .i64 n) (.int .i64 n)).run Tryz.prog w=.ok (.slice (some ⟨w.heap.size,0,.none⟩) n n) (w.alloc (.cells (textsV (List.replicate n ⟨#[]⟩)).toArray 23)):=by
 obtain⟨i,hi,h⟩:=Option.map_eq_some_iff.1 Qri;simp only[Prod.mk.injEq] at h;obtain⟨hz,hs,hb⟩:=h;have:=run_make w 109 23 i _ Tryz.underlying109 hi hz .i64 .i64 n n (by omega) (by omega) (by rw[hb];omega) (by omega);rw[Int.toNat_natCast,hs,Nat.mul_one,Qrj] at this;exact this
theorem Qrl(ss:List ByteArray)(k:Nat)(s:ByteArray):textsV (ss.set k s)=(textsV ss).set k (.string s):=by simp[textsV]
set_option maxRecDepth 100000 in
set_option maxHeartbeats 4000000 in
theorem Qjd(a:Option Addr)(cap K:Nat)(ts:List FE)(w:World)(hg:Glob w)(h:QRow w a cap ts)(hk:∀t,t∈ ts→t.k≤K)(hK:K≤274877906944)(hl:ts.length≤1000):
 Calls Tryz.prog 176 #[.slice a ts.length cap] w fun e w'=>(∃(g:Nat) (ss:List ByteArray),e=.returned (.slice (some ⟨g,0,none⟩) ts.length ts.length)∧(ss.length=ts.length∧w.heap.size≤g)∧SB w' g 23 (textsV ss).toArray∧∀(i:Nat) (t:FE) (s:ByteArray),ts[i]?=some t→ss[i]?=some s→QText s.data.toList t.q)∧Below w.heap.size w w':=by
 have HH:=Hi h;have HGL:=Hi hg;have HK:=Hi hk;have hmk:=fun w=>Qrk ts.length (by omega) w
 obtain⟨MC,hMC⟩:∃MC,(textsV (List.replicate ts.length ⟨#[]⟩)).toArray=MC:=⟨_,rfl⟩;rw[hMC] at hmk;have HMC:=Hi hMC;clear h hg hk hMC;go_enter Tryz.func176,Tryz.ntmps176;go_wp2_with fail;clear hmk;obtain⟨g,hg⟩:∃g,w.heap.size=g:=⟨_,rfl⟩;obtain⟨V,hV⟩:∃V,w.alloc (.cells MC 23)=V:=⟨_,rfl⟩;have HB0:Hid (Below g w V):=Hi (by rw[←hV,←hg];exact(Below.refl _ _).alloc (Nat.le_refl _) _);have HQ0:Hid (SB V g 23 (textsV (List.replicate ts.length ⟨#[]⟩)).toArray):=Hi (by rw[←hV,←hg,HMC.out];exact SB.new w _ _)
 try rw[hV]
 try rw[hg]
 clear hV;go_loopw [10] (fun i wr=>∃(k:Nat) (ss:List ByteArray),k≤ts.length∧i=.int .i64 k∧ss.length=ts.length∧SB wr g 23 (textsV ss).toArray∧(∀(i:Nat) (t:FE) (s:ByteArray),i<k→ts[i]?=some t→ss[i]?=some s→QText s.data.toList t.q)∧Below g w wr) (fun i _=>ts.length - (intOf i).toNat)
 case atStart=>exact⟨0,_,by omega,rfl,by simp,HQ0.out,fun i t s hi=>by omega,HB0.out⟩
 case round=>
  obtain⟨k,ss,hk,rfl,hsl,hsb,hall,hb⟩:=hrel;have HB:=Hi hb;have HSB:=Hi hsb;have HA:=Hi hall;have hgl:=hsb.lt;have HSL:=Hi hsl;clear hb hsb hall hsl;by_cases hlt:k<ts.length
  ·
   obtain⟨t,ht⟩:∃t,ts[k]?=some t:=⟨ts[k],List.getElem?_eq_getElem hlt⟩;have hbw:Below w.heap.size w wr:=by rw[hg];exact HB.out
   obtain⟨fb,off,rfl,hfb,d0,d1,d2⟩:=(HH.out.below hbw).at ht;have HTV:=Hi ((HH.out.below hbw).get ht);have HTK:=Hi (HK.out t (List.mem_of_getElem? ht));have HTA:=Hi (HGL.out.below hbw);have q1:((k:Int)<(ts.length:Int)):=by omega
   have HT:=Hi ht;obtain⟨s0,hs0⟩:∃s0,ss[k]?=some s0:=⟨ss[k]'(by have:=HSL.out;omega),List.getElem?_eq_getElem (by have:=HSL.out;omega)⟩;have HS0:=Hi hs0;clear ht hbw hs0;go_wp2_with fail;go_fit (Ql3 HTA.out.tab HTV.out.1 (HTV.out.2.1.mono HTK.out) hK);rintro e w2 ⟨⟨s,rfl,hqt⟩,hb2⟩;have HQT:=Hi hqt;have HB2:=Hi hb2;have HSB2:=Hi (HSB.out.below hb2 HSB.out.lt);have f0:=HSB2.out.free k;have t0:w2.cell? ⟨g,k,none⟩=some (.string s0):=by
    rw[HSB2.out.cell];simp[textsV,HS0.out]
   clear hqt hb2 d0 d1 d2;go_wp2;go_roundw
   case rel=>
    refine⟨k+1,ss.set k s,by omega,by go_num,by rw[List.length_set];exact HSL.out,?_,fun i x y hi hx hy=>?_,(HB.out.trans (HB2.out.mono (Nat.le_of_lt hgl))).setCell (p:=⟨g,k,none⟩) (Nat.le_refl _) _⟩
    ·
     have:=HSB2.out.set k (.string s);rw[Qrl]
     simpa using this
    ·
     rcases Nat.lt_or_ge i k with h1|h1
     · rw[List.getElem?_set_ne (by omega)] at hy
       exact HA.out i x y h1 hx hy
     ·
      obtain rfl:i=k:=by omega
      rw[List.getElem?_set_self (by have:=HSL.out;omega)] at hy;obtain rfl:=Option.some.inj hy;obtain rfl:=Option.some.inj (HT.out.symm.trans hx);exact HQT.out
   case measure=>simp[intOf];omega
  ·
   have hk':k=ts.length:=by omega
   subst hk';go_wp2;go_ret;rw[hg];exact⟨⟨g,ss,rfl,⟨HSL.out,Nat.le_of_eq rfl⟩,HSB.out,fun i t s ht hs=>HA.out i t s (List.getElem?_eq_some_iff.1 ht).1 ht hs⟩,HB.out⟩
theorem Tryz.stressInfo:(Tryz.prog.info? 111).map (·.size)=some 2:=by kernel_rfl
theorem QRow.take{w:World}{a:Option Addr}{cap:Nat}{ts:List FE}(h:QRow w a cap ts)(n:Nat):QRow w a cap (ts.take n):=by
 refine⟨⟨?_,⟨fun j u hj=>h.row.row.cell j u ?_⟩⟩,fun t ht=>h.ts t (List.mem_of_mem_take ht)⟩
 ·
  have:=h.row.fit;rw[List.length_take];omega
 ·
  have e:ts.flatMap FE.cells=(ts.take n).flatMap FE.cells++(ts.drop n).flatMap FE.cells:=by rw[←List.flatMap_append,List.take_append_drop]
  rw[e,List.getElem?_append_left (List.getElem?_eq_some_iff.1 hj).1];exact hj
theorem QRow.drop{w:World}{b off cap:Nat}{ts:List FE}(h:QRow w (some ⟨b,off,none⟩) cap ts){n:Nat}(hn:n≤ts.length):QRow w (some ⟨b,off+n*3,none⟩) (cap - n) (ts.drop n):=by
 refine⟨⟨?_,⟨fun j u hj=>?_⟩⟩,fun t ht=>h.ts t (List.mem_of_mem_drop ht)⟩
 ·
  have:=h.row.fit;rw[List.length_drop];omega
 ·
  have e:ts.flatMap FE.cells=(ts.take n).flatMap FE.cells++(ts.drop n).flatMap FE.cells:=by rw[←List.flatMap_append,List.take_append_drop]
  have hl:((ts.take n).flatMap FE.cells).length=n*3:=by
   rw[Qa9 (c:=FE.cells) (sz:=3) (fun _=>rfl),List.length_take,Nat.min_eq_left hn]
  obtain⟨b',off',ha,hb,hc⟩:=h.row.row.cell (n*3+j) u (by rw[e,List.getElem?_append_right (by omega),hl,Nat.add_sub_cancel_left];exact hj);cases ha;exact⟨b,off+n*3,rfl,hb,by rw[Nat.add_assoc];exact hc⟩
theorem QRow.empty(w:World)(a:Option Addr)(cap:Nat):QRow w a cap []:=⟨⟨Nat.zero_le _,⟨fun j u hj=>by simp at hj⟩⟩,fun t ht=>by cases ht⟩
def Told(ts:List FE)(ss:List ByteArray):Prop:=ss.length=ts.length∧∀(i:Nat) (t:FE) (s:ByteArray),ts[i]?=some t→ss[i]?=some s→QText s.data.toList t.q
set_option maxRecDepth 100000 in
set_option maxHeartbeats 4000000 in
theorem Qrm(s1 s3:Value)(a2:Option Addr)(c2 nb b off cap K:Nat)(ts:List FE)(w:World)(hg:Glob w)(h:QRow w (some ⟨b,off,none⟩) cap ts)(hk:∀t,t∈ ts→t.k≤K)(hK:K≤274877906944)(hl:ts.length≤1000)(hn:nb≤ts.length)(hcm:cap≤1000)(o1:s1.oneCell'=true)(o3:s3.oneCell'=true):
 Calls Tryz.prog 124 #[.agg #[s1,.slice a2 nb c2,s3],.slice (some ⟨b,off,none⟩) ts.length cap] w fun e w'=>(∃(g1 g2:Nat) (x y:List ByteArray),e=.returned (.agg #[.slice (some ⟨g1,0,none⟩) nb nb,.slice (some ⟨g2,0,none⟩) (ts.length - nb) (ts.length - nb)])∧SB w' g1 23 (textsV x).toArray∧SB w' g2 23 (textsV y).toArray∧Told (ts.take nb) x∧Told (ts.drop nb) y∧w.heap.size≤g1∧w.heap.size≤g2)∧Below w.heap.size w w':=by
 have hfit:=h.row.fit;have l1:(ts.take nb).length=nb:=by rw[List.length_take];omega
 have l2:(ts.drop nb).length=ts.length - nb:=List.length_drop;obtain⟨A,hA,hAq⟩:∃A:Addr,(if cap=nb then some (⟨b,off,none⟩:Addr) else some ⟨b,off+nb*3,none⟩)=some A∧QRow w (some A) (cap - nb) (ts.drop nb):=by
  by_cases e:cap=nb
  ·
   refine⟨⟨b,off,none⟩,by simp[e],?_⟩;have:ts.drop nb= []:=List.drop_of_length_le (by omega);rw[this];exact QRow.empty _ _ _
  · exact⟨⟨b,off+nb*3,none⟩,by simp[e],h.drop hn⟩
 have HT1:=Hi (fun u (hu:Below w.heap.size w u)=>Qjd (some ⟨b,off,none⟩) cap K (ts.take nb) u (hg.below hu) ((h.take nb).below hu) (fun t ht=>hk t (List.mem_of_mem_take ht)) hK (by omega));have HT2:=Hi (fun u (hu:Below w.heap.size w u)=>Qjd (some A) (cap - nb) K (ts.drop nb) u (hg.below hu) (hAq.below hu) (fun t ht=>hk t (List.mem_of_mem_drop ht)) hK (by omega));rw[l1] at HT1;rw[l2] at HT2;have HL1:=Hi l1;have HL2:=Hi l2;clear h hg hk hAq l1 l2;go_enter Tryz.func124,Tryz.ntmps124;obtain⟨V,hV⟩:∃V,(w.alloc (.cells #[s1,.slice a2 nb c2,s3] 54)).alloc (.cells #[.slice none 0 0,.slice none 0 0] 111)=V:=⟨_,rfl⟩;have HB0:Hid (Below w.heap.size w V):=Hi (by rw[←hV];exact Below.new2 w _ _);have HS0:Hid (SB V w.heap.size 54 #[s1,.slice a2 nb c2,s3]):=Hi (by rw[←hV];exact(SB.new w _ _).alloc _)
 have HS1:Hid (SB V (w.heap.size+1) 111 #[.slice none 0 0,.slice none 0 0]):=Hi (by rw[←hV];exact SB.new2 w _ _ _ _);have HV:=Hi hV;clear hV;have q1:nb≤cap:=by omega
 have q2:ts.length≤cap:=hfit;go_wp2_with fail;rw[HV.out];go_region_held3 (fun _=>True) (trivial) (first
  |(
   go_at_call_of 176 (Value.slice (some ⟨b,off,none⟩) nb cap);apply Calls.mono;apply HT1.out;(focus(repeat(first|exact HB0.out|apply Qbe|apply Qbf)));rintro e1 w1 ⟨⟨g1,x,rfl,hx1,hx2,hx3⟩,hb1⟩;(first
     |have HB1:Hid (Below V.heap.size V w1):=Hi hb1
     |have HB1:Hid (Below V.heap.size V w1):=Hi ((Below.refl _ _).drew.trans hb1))
   have HX1:=Hi hx1;have HX2:=Hi hx2;have HX3:=Hi hx3;have HW1:=Hi (HB0.out.trans (HB1.out.mono HB0.out.size));clear hx1 hx2 hx3 hb1
   skip)
  |(
   go_at_call_of 176 (Value.slice (some A) (ts.length - nb) (cap - nb));apply Calls.mono;apply HT2.out;(focus(repeat(first|exact HW1.out|apply Qbe|apply Qbf)));rintro e2 w2 ⟨⟨g2,y,rfl,hy1,hy2,hy3⟩,hb2⟩;(first
     |have HB2:Hid (Below w1.heap.size w1 w2):=Hi hb2
     |have HB2:Hid (Below w1.heap.size w1 w2):=Hi ((Below.refl _ _).drew.trans hb2))
   have HY1:=Hi hy1;have HY2:=Hi hy2;have HY3:=Hi hy3;have HR2:=Hi ((HS1.out.below HB1.out HS1.out.lt).below HB2.out (HS1.out.below HB1.out HS1.out.lt).lt);have r0:w2.cell? ⟨w.heap.size+1,0,none⟩=some (.slice none 0 0):=HR2.out.cell 0;have r1:w2.cell? ⟨w.heap.size+1,1,none⟩=some (.slice none 0 0):=HR2.out.cell 1;have f0:=HR2.out.free 0;have f1:=HR2.out.free 1;clear hy1 hy2 hy3 hb2
   skip)
  |fail)
 all_goals
  go_wp2;have hx:=HX2.out.below HB2.out HX2.out.lt;have nx:=hx.unlike HR2.out (by decide);have ny:=HY2.out.unlike HR2.out (by decide);refine bodyPost_ret (v:=.agg #[.slice (some ⟨g1,0,none⟩) nb nb,.slice (some ⟨g2,0,none⟩) (ts.length - nb) (ts.length - nb)]) (results_cell_row rfl _ _ (w.heap.size+1) 111 #[.slice (some ⟨g1,0,none⟩) nb nb,.slice (some ⟨g2,0,none⟩) (ts.length - nb) (ts.length - nb)] (0,0) _ rfl ((HR2.out.set 0 _).set 1 _) Tryz.underlying111 rfl Tryz.stressInfo) rfl ?_;exact⟨⟨g1,g2,x,y,rfl,(hx.other nx _ _).other nx _ _,(HY2.out.other ny _ _).other ny _ _,⟨by rw[HL1.out];exact HX1.out.1,HX3.out⟩,⟨by rw[HL2.out];exact HY1.out.1,HY3.out⟩,Nat.le_trans HB0.out.size HX1.out.2,Nat.le_trans HW1.out.size HY1.out.2⟩,((HW1.out.trans (HB2.out.mono HW1.out.size)).setCell (Nat.le_succ _) _).setCell (Nat.le_succ _) _⟩
end Go.Proofs.YtbbkamnfjejceaaGreatDoor
