/- package cable: Firm, of a frame in which nothing is wrong. -/
import Derived.Test.YtfpcipgoedifaaaGreatDoorK43CabI
namespace Go.Proofs.YtfpcipgoedifaaaGreatDoor
open Go.RowKit
set_option linter.unusedVariables false
set_option linter.unusedSimpArgs false
def EvTo(n way k:Nat)(F:Cab.Mx)(X Y:Vec):Prop:=(0<way->dot n (F k) X=0)/\(1<way->dot n (F k) Y=0)
def EvAll(n k:Nat)(F:Cab.Mx)(X Y:Vec):Prop:=∀i,i<k->dot n (F i) X=0/\dot n (F i) Y=0
set_option maxRecDepth 100000 in
set_option maxHeartbeats 4000000 in
theorem Qm6(n KF GI BI:Nat)(gi:List Nat)(F:Cab.Mx)(X Y:Vec)(x1 x2 y1 y2:Value)(xa ya:Option Addr)(xc yc:Nat)(w:World)(hf:GA w BI GI n KF gi F)(hgi:gi.length=n)(hx:RowF n 4194305 X (.slice xa n xc) w)(hy:RowF n 4194305 Y (.slice ya n yc) w)(hn:n<=10)(hKF:KF<=403000000):
 Calls Tryz.prog 41 #[.slice (some ⟨GI,0,none⟩) n n,.agg #[.slice xa n xc,x1,x2,.slice ya n yc,y1,y2]] w fun e w'=>(∃b,e=.returned (.bool b)/\(b=true↔EvAll n n F X Y))/\Below w.heap.size w w':=by
 obtain⟨B0,hB0⟩:=nm w.heap.size;obtain⟨V,hV⟩:=nm (w.alloc (.cells #[.slice xa n xc,x1,x2,.slice ya n yc,y1,y2] 75));have hbv:Below w.heap.size w V:=by rw[<-hV];exact(Below.refl _ _).alloc lZ _
 have hS0:SB V B0 75 #[.slice xa n xc,x1,x2,.slice ya n yc,y1,y2]:=by rw[<-hV,<-hB0];exact SB.new w _ _
 have HF:=Hi hf;have HGI:=Hi hgi;have HX:=Hi hx;have HY:=Hi hy;have HBV:=Hi hbv;have HS:=Hi hS0;have HVE:=Hi hV;have HB0:=Hi hB0;have HKB:Hid (n*(KF+4194305+1)+1<=4071943061/\4071943061<68719476000/\n<=1000):=Hi (by
  have:=Qg0 hn hKF (e:=6000000) lZ
  exact⟨this.1,by omega,by omega⟩)
 clear hf hgi hx hy hbv hS0 hV hB0;go_enter Tryz.func41,Tryz.ntmps41;go_wp2_with fail;rw[HVE.out,HB0.out];go_loopw [10] (fun iv wr=>∃k:Nat,k<=n/\iv=.int .i64 k/\EvAll n k F X Y/\Below w.heap.size w wr/\SB wr B0 75 #[.slice xa n xc,x1,x2,.slice ya n yc,y1,y2]) (fun iv _=>n - (intOf iv).toNat)
 case atStart=>exact⟨0,by omega,rfl,fun i hi=>by omega,HBV.out,HS.out⟩
 case round=>
  obtain⟨k,hk,rfl,hev,hb,hs⟩:=hrel;by_cases hlt:k<n
  ·
   obtain⟨g,hg⟩:∃g,gi[k]?=some g:=⟨gi[k]'(by have:=HGI.out;omega),gE _⟩;have hga:=HF.out.below hb;have d0:=hga.gm.cell hg;have HRW:=Hi (hga.rowF hg);have HEV:=Hi hev;have HB:=Hi hb;have HSB:=Hi hs;have HBW:Hid (Below wr.heap.size wr wr):=Hi bR;have q1:((k:Int)<(n:Int)):=by omega
   obtain⟨wk,hwk⟩:=nm wr;rw[hwk] at HRW;have HWK:=Hi hwk;clear hg hga hev hb hs hwk;go_wp2_with fail;clear d0;go_loopw [14] (fun iv wi=>∃way:Nat,way<=2/\iv=.int .i64 way/\EvTo n way k F X Y/\Below wk.heap.size wk wi) (fun iv _=>2 - (intOf iv).toNat)
   case atStart=>exact⟨0,by omega,rfl,⟨fun h=>by omega,fun h=>by omega⟩,by rw[HWK.out];exact Below.refl _ _⟩
   case round=>
    obtain⟨way,hw,rfl,hto,hbi⟩:=hrel;have hbwk:Below w.heap.size w wr:=by
     have h:=HB.out;rw[HWK.out] at h;exact h.trans (hbi.mono h.size)
    have hsi:SB wr B0 75 #[.slice xa n xc,x1,x2,.slice ya n yc,y1,y2]:=by
     have h:=HSB.out;rw[HWK.out] at h;exact h.below hbi h.lt
    have HBI:=Hi hbwk;have HBK:=Hi hbi;have HSI:=Hi hsi;have HTO:=Hi hto;have HTX:=Hi (Qev (HRW.out.below hbi) (HX.out.below hbwk) HKB.out.2.2 HKB.out.1 HKB.out.2.1);have HTY:=Hi (Qev (HRW.out.below hbi) (HY.out.below hbwk) HKB.out.2.2 HKB.out.1 HKB.out.2.1);have hways:way=0∨way=1∨way=2:=by omega
    have s0:=hsi.cell 0;have s3:=hsi.cell 3;simp only[List.getElem?_toArray,List.getElem?_cons_zero,List.getElem?_cons_succ] at s0 s3;clear hbi hto hbwk hsi hw;rcases hways with rfl|rfl|rfl
    ·
     go_wp2_with fail;refine Makes.use HTX.out ?_;intro v w1 hb1 h1;have HB1:=Hi hb1;clear s0 s3 hb1;go_wp2_with fail;refine Makes.use h1.isZero ?_;rintro _ w2 hb2 rfl;have HB2:=Hi (HB1.out.trans (hb2.mono HB1.out.size));clear hb2 h1;by_cases h0:dot n (F k) X=0
     ·
      rw[decide_eq_true h0];have HZ:=Hi h0;clear h0;go_wp2;go_roundw
      case rel=>exact⟨1,by omega,by go_num,⟨fun _=>HZ.out,fun h=>by omega⟩,HBK.out.trans (HB2.out.mono HBK.out.size)⟩
      case measure=>simp[intOf]
     ·
      rw[decide_eq_false h0];have HZ:=Hi h0;clear h0;go_wp2;go_ret;exact⟨⟨false,rfl,⟨fun h=>(by cases h),fun h=>absurd (h k hlt).1 HZ.out⟩⟩,HBI.out.trans (HB2.out.mono HBI.out.size)⟩
    ·
     go_wp2_with fail;refine Makes.use HTY.out ?_;intro v w1 hb1 h1;have HB1:=Hi hb1;clear s0 s3 hb1;go_wp2_with fail;refine Makes.use h1.isZero ?_;rintro _ w2 hb2 rfl;have HB2:=Hi (HB1.out.trans (hb2.mono HB1.out.size));clear hb2 h1;by_cases h0:dot n (F k) Y=0
     ·
      rw[decide_eq_true h0];have HZ:=Hi h0;clear h0;go_wp2;go_roundw
      case rel=>exact⟨2,by omega,by go_num,⟨fun _=>HTO.out.1 (by omega),fun _=>HZ.out⟩,HBK.out.trans (HB2.out.mono HBK.out.size)⟩
      case measure=>simp[intOf]
     ·
      rw[decide_eq_false h0];have HZ:=Hi h0;clear h0;go_wp2;go_ret;exact⟨⟨false,rfl,⟨fun h=>(by cases h),fun h=>absurd (h k hlt).2 HZ.out⟩⟩,HBI.out.trans (HB2.out.mono HBI.out.size)⟩
    ·
     have HE:Hid (EvAll n (k+1) F X Y):=Hi (fun i hi=>by
      rcases Nat.lt_or_ge i k with h|h
      · exact HEV.out i h
      · obtain rfl:i=k:=by omega
        exact⟨HTO.out.1 (by omega),HTO.out.2 (by omega)⟩)
     clear s0 s3 HTX HTY;go_wp2;go_roundw
     case rel=>exact⟨k+1,by omega,by go_num,HE.out,HBI.out,HSI.out⟩
     case measure=>simp[intOf];omega
  ·
   obtain rfl:k=n:=by omega
   go_wp2;go_ret;exact⟨⟨true,rfl,⟨fun _=>hev,fun _=>rfl⟩⟩,hb⟩
set_option maxRecDepth 100000 in
set_option maxHeartbeats 4000000 in
theorem Qg7(a1 a2 a3 aq:Option Addr)(c1 c2 c3 cq:Nat)(js:List S2)(bs:List B6)(hs:List H3)(w:World)(hg:Glob w)(hf:FrRow w a1 a2 a3 c1 c2 c3 js bs hs)(hz:FrSized js bs hs)(hok:FrameFault js bs hs 0 0):
 Calls Tryz.prog 22 #[.agg #[.slice a1 js.length c1,.slice a2 bs.length c2,.slice a3 hs.length c3],.slice aq bs.length cq] w fun e w'=>e=.returned (.agg #[.int .i64 0,.int .i64 0])/\Below w.heap.size w w':=by
 obtain⟨B0,hB0⟩:=nm w.heap.size;obtain⟨V,hV⟩:=nm ((w.alloc (.cells #[.slice a1 js.length c1,.slice a2 bs.length c2,.slice a3 hs.length c3] 26)).alloc (.cells #[.int .i64 0,.int .i64 0] 31));have hbv:Below w.heap.size w V:=by rw[<-hV];exact Below.new2 w _ _
 have hS0:SB V B0 26 #[.slice a1 js.length c1,.slice a2 bs.length c2,.slice a3 hs.length c3]:=by rw[<-hV,<-hB0];exact(SB.new w _ _).alloc _
 have hS1:SB V (B0+1) 31 #[.int .i64 0,.int .i64 0]:=by rw[<-hV,<-hB0];exact SB.new2 w _ _ _ _
 have HCK:=Hi (Qs8 a1 a2 a3 c1 c2 c3 js bs hs V (hg.below hbv) (hf.below hbv) hz);have HOK:=Hi hok;have HBV:=Hi hbv;have HS0:=Hi hS0;have HS1:=Hi hS1;have x0:=hS0.cell 0;have x1:=hS0.cell 1;have x2:=hS0.cell 2;simp only[List.getElem?_toArray,List.getElem?_cons_zero,List.getElem?_cons_succ] at x0 x1 x2;rw[<-hV,<-hB0] at x0 x1 x2;have HVE:=Hi hV;have HB0:=Hi hB0;have HLE:Hid (w.heap.size<=B0+1):=Hi (by omega);clear hg hf hz hok hbv hS0 hS1 hV hB0;go_enter Tryz.func22,Tryz.ntmps22;go_wp2_with fail;rw[HVE.out,HB0.out];go_fit HCK.out;rintro e w1 ⟨c,at_,rfl,hff,hb1⟩;obtain⟨rfl,rfl⟩:=hff.inj HOK.out;have h0:=HS0.out.below hb1 HS0.out.lt;have h1:=HS1.out.below hb1 HS1.out.lt;have HE1:=Hi h1;have HB1:=Hi (HBV.out.trans (hb1.mono HBV.out.size));have HN1:Hid (B0+1<w1.heap.size):=Hi h1.lt;obtain⟨U,hU⟩:=nm (w1.alloc (.cells #[.int .i64 0,.int .i64 0] 31))
 have hbU:Below w1.heap.size w1 U:=by rw[<-hU];exact(Below.refl _ _).alloc lZ _
 have HEU:=Hi (h1.below hbU h1.lt);have HBU:=Hi (HB1.out.trans (hbU.mono HB1.out.size));have y1:=(h0.below hbU h0.lt).cell 1;have g0:=(h1.below hbU h1.lt).cell 0;have g1:=(h1.below hbU h1.lt).cell 1;simp only[List.getElem?_toArray,List.getElem?_cons_zero,List.getElem?_cons_succ] at y1 g0 g1;have f0:=(h1.below hbU h1.lt).free 0;have f1:=(h1.below hbU h1.lt).free 1;rw[<-hU] at y1 g0 g1 f0 f1;have HUE:=Hi hU;clear x0 x1 x2 hb1 hff h0 h1 hU hbU;go_wp2_with fail;rw[HUE.out];refine bodyPost_ret (v:=.agg #[.int .i64 0,.int .i64 0]) (results_cell_row rfl _ _ (B0+1) 31 #[.int .i64 0,.int .i64 0] (0,0) _ rfl ((HEU.out.set 0 _).set 1 _) Tryz.underlying31 rfl Tryz.faultInfo) rfl ?_;exact⟨rfl,(HBU.out.setCell (p:=⟨B0+1,0,none⟩) HLE.out _).setCell (p:=⟨B0+1,1,none⟩) HLE.out _⟩
def TxsF(n:Nat)(X:Vec):Fact:=fun v w=>∃(g:Nat) (ss:List ByteArray),v=.slice (some ⟨g,0,none⟩) n n/\ss.length=n/\SB w g 40 (textsV ss).toArray/\∀(i:Nat) (s:ByteArray),ss[i]?=some s->QText s.data.toList (X i)
theorem TxsF.stays(n:Nat)(X:Vec):Stays (TxsF n X):=fun _ _ _ hb ⟨g,ss,e,h1,h2,h3⟩=>⟨g,ss,e,h1,h2.below hb h2.lt,h3⟩
theorem Qg8{n K:Nat}{X:Vec}{v:Value}{w:World}(hg:Glob w)(h:RowF n K X v w)(hK:K<=274877906944)(hn:n<=1000):Calls Tryz.prog 56 #[v] w (Makes w (TxsF n X)):=by
 obtain⟨a,cap,ts,rfl,hq,hl,hv⟩:=h;have h:=Qux a cap K ts w hg hq (fun t ht=>by
  obtain⟨i,hi⟩:=List.getElem?_of_mem ht
  exact(hv i t hi).2) hK (by omega)
 rw[hl] at h;refine h.mono ?_;rintro e w' ⟨⟨g,ss,rfl,⟨hsl,_⟩,hsb,ht⟩,hb⟩;refine⟨_,rfl,hb,g,ss,rfl,hsl,hsb,fun i s hi=>?_⟩;obtain⟨t,htt⟩:∃t,ts[i]?=some t:=⟨ts[i]'(by have:=(gZ hi).1;omega),gE _⟩;have:=ht i t s htt hi;rw[(hv i t htt).1] at this;exact this
def SpsF(n:Nat)(X Y:Vec):Fact:=fun v w=>∃(g:Nat) (ss:List S2),v=.slice (some ⟨g,0,none⟩) n n/\ss.length=n/\SB w g 42 (ss.flatMap S2.cells).toArray/\∀(i:Nat) (s:S2),ss[i]?=some s->QText s.x.data.toList (X i)/\QText s.y.data.toList (Y i)
theorem Qg9{w:World}{g i:Nat}{t:TypeId}{ss:List ByteArray}{s:ByteArray}(h:SB w g t (textsV ss).toArray)(hs:ss[i]?=some s):w.cell? ⟨g,i,none⟩=some (.string s):=by
 rw[h.cell];unfold textsV;rw[List.getElem?_toArray,List.getElem?_map,hs];rfl
set_option maxRecDepth 100000 in
set_option maxHeartbeats 4000000 in
theorem Qm7(n J:Nat)(X Y:Vec)(x1 x2 y1 y2:Value)(xa ya:Option Addr)(xc yc:Nat)(w:World)(hg:Glob w)(hx:RowF n J X (.slice xa n xc) w)(hy:RowF n J Y (.slice ya n yc) w)(hn:n<=10)(hJ:J<=274877906944):
 Calls Tryz.prog 28 #[.agg #[.slice xa n xc,x1,x2,.slice ya n yc,y1,y2]] w (Makes w (SpsF n X Y)):=by
 obtain⟨B0,hB0⟩:=nm w.heap.size;obtain⟨V,hV⟩:=nm (w.alloc (.cells #[.slice xa n xc,x1,x2,.slice ya n yc,y1,y2] 75));have hbv:Below w.heap.size w V.drew:=by rw[<-hV];exact(bR.alloc lZ _).drew
 have hS0:SB V.drew B0 75 #[.slice xa n xc,x1,x2,.slice ya n yc,y1,y2]:=by rw[<-hV,<-hB0];exact(SB.new w _ _).drew
 have HG:=Hi (hg.below hbv);have HX:=Hi (hx.below hbv);have HY:=Hi (hy.below hbv);have HBV:=Hi hbv;have HS:=Hi hS0;have HVE:=Hi hV;have HB0:=Hi hB0;have HN:Hid (n<=1000):=Hi (by omega);have HJ:=Hi hJ;clear hg hx hy hbv hS0 hV hB0 hJ;go_enter Tryz.func28,Tryz.ntmps28;go_wp2_with fail;rw[HVE.out,HB0.out];refine RegG.bg 10 (fun j=>match j with|8=>some 3|9=>some 4|j=>some (7+j)) ?_;refine RegG.p0 [] ?_;refine RegG.p0 [0] ?_;refine RegG.pu (c:=?_) [1] (fun w hb=>?_) ?_;rotate_left
 ·
  intro K hK;obtain⟨d0,-⟩:=zc (HS.out.below hb HS.out.lt);go_simp;exact hK
 refine RegG.ca (φ:=TxsF n X) [2] (TxsF.stays _ _) (fun w hb=>?_) ?_
 ·
  intro K hK;go_simp;exact Makes.use (Qg8 (HG.out.below hb) (HX.out.below hb) HJ.out HN.out) hK
 refine RegG.p0 [] ?_;refine RegG.p0 [4] ?_;refine RegG.pu (c:=?_) [5] (fun w hb=>?_) ?_;rotate_left
 ·
  intro K hK;obtain⟨-,-,-,d0,-⟩:=zc (HS.out.below hb HS.out.lt);go_simp;exact hK
 refine RegG.ca (φ:=TxsF n Y) [6] (TxsF.stays _ _) (fun w hb=>?_) ?_
 ·
  intro K hK;go_simp;exact Makes.use (Qg8 (HG.out.below hb) (HY.out.below hb) HJ.out HN.out) hK
 refine RegG.ca (φ:=TxsF n X) [3] (TxsF.stays _ _) (fun w hb=>?_) ?_
 ·
  intro v3 h3 K hK;go_simp;exact hK _ _ bR h3
 refine RegG.ca (φ:=TxsF n Y) [7] (TxsF.stays _ _) (fun w hb=>?_) ?_
 ·
  intro v7 h7 K hK;go_simp;exact hK _ _ bR h7
 refine RegG.fi (fun u hb=>?_);intro v3 _ v7 _ v8 h8 v9 h9;obtain⟨g3,ss,rfl,hsl,hsb,hst⟩:=h8;obtain⟨g4,ts,rfl,htl,htb,htt⟩:=h9;have hmk:=Quw n (by omega) u;obtain⟨MC,hMC⟩:=nm (((List.replicate n S2.none).flatMap S2.cells).toArray);rw[hMC] at hmk;obtain⟨U,hU⟩:=nm (u.alloc (.cells MC 42));have hbU:Below u.heap.size u U:=by rw[<-hU];exact(Below.refl _ _).alloc lZ _
 obtain⟨G,hG⟩:=nm u.heap.size;have HQ0:Hid (SB U G 42 ((List.replicate n S2.none).flatMap S2.cells).toArray):=Hi (by rw[<-hU,<-hG,hMC];exact SB.new u _ _);have HSB:=Hi (hsb.below hbU hsb.lt);have HTB:=Hi (htb.below hbU htb.lt);have HB1:=Hi (HBV.out.trans ((hb.trans (hbU.mono hb.size)).mono HBV.out.size));have HT:=Hi (And.intro hsl (And.intro hst (And.intro htl htt)));have HGG:Hid (g3≠G/\g4≠G/\w.heap.size<=G):=Hi (by have:=hsb.lt;have:=htb.lt;have:=HBV.out.size;have:=hb.size;omega);rw[hU,hG] at hmk;clear hsl hst htl htt hsb htb hb hbU hU hMC hG HVE;go_wp2_with fail;clear hmk
 go_loopw [20] (fun iv wr=>∃(k:Nat) (ps:List S2),k<=n/\iv=.int .i64 k/\ps.length=n/\SB wr G 42 (ps.flatMap S2.cells).toArray/\(∀(i:Nat) (s:S2),i<k->ps[i]?=some s->QText s.x.data.toList (X i)/\QText s.y.data.toList (Y i))/\SB wr g3 40 (textsV ss).toArray/\SB wr g4 40 (textsV ts).toArray/\Below w.heap.size w wr) (fun iv _=>n - (intOf iv).toNat)
 case atStart=>exact⟨0,_,by omega,rfl,by simp,HQ0.out,fun i s hi=>by omega,HSB.out,HTB.out,HB1.out⟩
 case round=>
  obtain⟨k,ps,hk,rfl,hpl,hpb,hall,hsb,htb,hbb⟩:=hrel;by_cases hlt:k<n
  ·
   obtain⟨sk,hsk⟩:∃s,ss[k]?=some s:=⟨ss[k]'(by have:=HT.out.1;omega),gE _⟩;obtain⟨tk,htk⟩:∃s,ts[k]?=some s:=⟨ts[k]'(by have:=HT.out.2.2.1;omega),gE _⟩;have hdr:Below wr.heap.size wr wr.drew:=bR.drew;have HC3:=Hi (Qg9 (hsb.below hdr hsb.lt) hsk);have HC4:=Hi (Qg9 (htb.below hdr htb.lt) htk);have HL3:=Hi (hsb.below hdr hsb.lt).lt;have HL4:=Hi (htb.below hdr htb.lt).lt;have HPB:=Hi (hpb.below hdr hpb.lt);have HSB:=Hi (hsb.below hdr hsb.lt);have HTB:=Hi (htb.below hdr htb.lt);have HB:=Hi (hbb.trans (hdr.mono hbb.size));have HQX:=Hi (HT.out.2.1 k sk hsk);have HQY:=Hi (HT.out.2.2.2 k tk htk);have HA:=Hi hall;have HPL:=Hi hpl;have q1:((k:Int)<(n:Int)):=by omega
   clear hsk htk hdr hpb hsb htb hbb hall;go_wp2_with fail;refine RegG.bg 12 (fun j=>some (23+j)) ?_;refine RegG.p0 [] ?_;refine RegG.p0 [] ?_;refine RegG.p0 [] ?_;refine RegG.p0 [] ?_;refine RegG.p0 [2,3] ?_;refine RegG.pu (c:=?_) [4] (fun w hb=>?_) ?_;rotate_left
   ·
    intro K hK;have d0:w.cell? ⟨g3,k,none⟩=some (.string sk):=ce hb HL3.out HC3.out;go_simp;exact hK
   refine RegG.p0 [] ?_;refine RegG.p0 [] ?_;refine RegG.p0 [6,7] ?_;refine RegG.pu (c:=?_) [8] (fun w hb=>?_) ?_;rotate_left
   ·
    intro K hK;have d0:w.cell? ⟨g4,k,none⟩=some (.string tk):=ce hb HL4.out HC4.out;go_simp;exact hK
   refine RegG.p0 [5,9] ?_;refine RegG.p0 [0,1] ?_;refine RegG.last (by simp only[List.nil_append,List.cons_append,List.length_append,List.length_cons,List.length_nil,Nat.reduceAdd]) (by rfl) (by rfl) (by kernel_rfl) (fun x6 hb=>?_);simp only[FinG,List.nil_append,List.cons_append,Qaf,Act.put,List.setIfInBounds_toArray,List.set_cons_zero,List.set_cons_succ,Nat.reduceAdd,Nat.reduceBEq,cond_true,cond_false];intro K6 hK6;have hp6:=HPB.out.below hb HPB.out.lt;obtain⟨p0,hp0⟩:∃p,ps[k]?=some p:=⟨ps[k]'(by have:=HPL.out;omega),gE _⟩;obtain⟨bb,oo,hbo,_,t0,t1⟩:=(hp6.arow rfl (by have:=HPL.out;omega):ARow S2.cells x6 (some ⟨G,0,none⟩) n ps).spot hp0;cases hbo;simp only[Nat.zero_add] at t0 t1;have f0:=hp6.free (k*2);have f1:=hp6.free (k*2+1);have hset:=(hp6.set (k*2) (.string sk)).set (k*2+1) (.string tk)
   have ho:Only G x6 ((x6.setCell ⟨G,k*2,none⟩ (.string sk)).setCell ⟨G,k*2+1,none⟩ (.string tk)):=((Only.refl G x6).setCell (k*2) (.string sk)).setCell (k*2+1) (.string tk);have HS9:Hid (SB ((x6.setCell ⟨G,k*2,none⟩ (.string sk)).setCell ⟨G,k*2+1,none⟩ (.string tk)) G 42 ((ps.set k ⟨sk,tk⟩).flatMap S2.cells).toArray):=Hi (by
    rw[Qk7 ps k ⟨sk,tk⟩ (by have:=HPL.out;omega)]
    simpa using hset)
   have H3:=Hi ((HSB.out.below hb HSB.out.lt).only ho HGG.out.1);have H4:=Hi ((HTB.out.below hb HTB.out.lt).only ho HGG.out.2.1);have HB9:=Hi (Only.fresh (HB.out.trans (hb.mono HB.out.size)) ho HGG.out.2.2);have HL9:Hid ((ps.set k (⟨sk,tk⟩:S2)).length=n):=Hi (by rw[List.length_set];exact HPL.out);have HA9:Hid (∀(i:Nat) (s:S2),i<k+1->(ps.set k (⟨sk,tk⟩:S2))[i]?=some s->QText s.x.data.toList (X i)/\QText s.y.data.toList (Y i)):=Hi (fun i s hi hs=>by
    rcases Nat.lt_or_ge i k with h|h
    · rw[List.getElem?_set_ne (by omega)] at hs
      exact HA.out i s h hs
    ·
     obtain rfl:i=k:=by omega
     rw[List.getElem?_set_self (by have:=HPL.out;omega)] at hs;obtain rfl:=Option.some.inj hs
     exact⟨HQX.out,HQY.out⟩)
   clear hp6 hp0 hset ho hb;go_simp;refine hK6 _ _ ?_;clear hK6 t0 t1 f0 f1;go_wp2;go_roundw
   case rel=>exact⟨k+1,_,by omega,by go_num,HL9.out,HS9.out,HA9.out,H3.out,H4.out,HB9.out⟩
   case measure=>simp[intOf];omega
  ·
   obtain rfl:k=n:=by omega
   go_wp2;go_ret;exact⟨_,rfl,hbb,G,ps,rfl,hpl,hpb,fun i s hs=>hall i s (by have:=(gZ hs).1;omega) hs⟩
structure CabV (js:List S2) (bs:List B6) (hs:List H3) (xv yv:Vec) (A B hj hw:Nat->Nat):Prop where
 n0:1<=js.length
 n1:js.length<=10
 n2:bs.length<=24
 n3:hs.length<=20
 s:SpotT js xv yv
 e:EndsOf js.length bs A B
 h:HoldT js.length hs hj hw
theorem CabV.ex{js:List S2}{bs:List B6}{hs:List H3}(hz:FrSized js bs hs)(h:FrameFault js bs hs 0 0):∃xv yv A B hj hw,CabV js bs hs xv yv A B hj hw:=by
 obtain⟨hm,hb,hh,_⟩:=h.few;have e1:∀k:Nat,∃p:Rat × Rat,∀s,js[k]?=some s->QOf s.x.data.toList p.1/\QOf s.y.data.toList p.2:=fun k=>by
  rcases hk:js[k]? with _|s
  · exact⟨(0,0),fun s hs=>by cases hs⟩
  ·
   obtain⟨p,hp⟩:=QOf.ex s.x.data.toList;obtain⟨q,hq⟩:=QOf.ex s.y.data.toList;exact⟨(p,q),fun s' hs=>by cases hs;exact⟨hp,hq⟩⟩
 obtain⟨f,hf⟩:=Classical.axiomOfChoice e1;unfold Many at hm;refine⟨fun k=>(f k).1,fun k=>(f k).2,fun k=>((bs[k]?.map (fun b:B6=>b.a)).getD 0).toNat,fun k=>((bs[k]?.map (fun b:B6=>b.b)).getD 0).toNat,fun k=>((hs[k]?.map (fun h:H3=>h.j)).getD 0).toNat,fun k=>((hs[k]?.map (fun h:H3=>h.w)).getD 0).toNat - 1,by omega,by omega,by omega,by omega,fun k s hs'=>?_,fun k b hb'=>?_,fun k x hx=>?_⟩
 ·
  have h1:=hf k s hs';have h2:=hz.j s (mO hs');exact⟨h1.1,h1.2,h2.1,h2.2⟩
 ·
  obtain⟨p,hp,h1,h2,_⟩:=Qog hz (hb k b hb');have ha:=hp.a;have hbb:=hp.b;have hne:=hp.ne;simp only[hb',Option.map_some,Option.getD_some];refine⟨by omega,by omega,by omega,by omega,by omega⟩
 ·
  have h1:=hh k x hx;unfold holdAt holdC at h1;simp only[hx,Option.map_some,Option.getD_some];by_cases h2:0<=x.j/\x.j<js.length
  ·
   rw[if_pos h2] at h1;by_cases h3:x.w≠1/\x.w≠2
   · rw[if_pos h3] at h1
     cases h1
   · refine⟨by omega,by omega,by omega,by omega⟩
  · rw[if_neg h2] at h1
    cases h1
theorem RowF.eqF{n K:Nat}{x y:Vec}{v:Value}{w:World}(h:RowF n K x v w)(e:∀i,i<n->x i=y i):RowF n K y v w:=by
 obtain⟨a,cap,ts,rfl,hq,hl,hv⟩:=h;exact⟨a,cap,ts,rfl,hq,hl,fun c t ht=>⟨(hv c t ht).1.trans (e c (by have:=(gZ ht).1;omega)),(hv c t ht).2⟩⟩
def QsT(ls:List ByteArray)(q:Vec):Prop:=∀(k:Nat) (s:ByteArray),ls[k]?=some s->QOf s.data.toList (q k)/\s.size<=1048576
def FormF(n J:Nat)(F:Cab.Mx):Fact:=fun v w=>∃(G BI:Nat) (gs:List Nat),v=.slice (some ⟨G,0,none⟩) n n/\gs.length=n/\GA w BI G n J gs F
theorem FormF.stays(n J:Nat)(F:Cab.Mx):Stays (FormF n J F):=fun _ _ _ hb ⟨G,BI,gs,e,h1,h2⟩=>⟨G,BI,gs,e,h1,h2.below hb⟩
theorem GA.sqv{w:World}{BI G n J:Nat}{gs:List Nat}{F:Cab.Mx}(h:GA w BI G n J gs F)(hg:gs.length=n)(hz:∀r c,n<=c->F r c=0):∃rs,SqV w (some ⟨G,0,none⟩) n n J F rs:=by
 obtain⟨rs,hl,hq,_,hk,hm⟩:=h.gm.rows hz;rw[hg] at hl hq hm;refine⟨rs,hq,hl,fun i r hr c t ht=>?_⟩;have hi:i<n:=by have:=(gZ hr).1;omega
 have h1:(rs.map MR.q)[i]?=some (F i):=by rw[hm,List.getElem?_map,List.getElem?_range hi];rfl
 rw[List.getElem?_map,hr] at h1;have h2:r.q=F i:=Option.some.inj h1;refine⟨?_,hk r (mO hr) t (mO ht)⟩;rw[<-h2,MR.q_at ht]
theorem Qha{a1 a2 a3:Option Addr}{c1 c2 c3:Nat}{js:List S2}{bs:List B6}{hs:List H3}{xv yv q:Vec}{A B hj hw:Nat->Nat}{v:Value}{w:World}(hv:CabV js bs hs xv yv A B hj hw)(hf:FrRow w a1 a2 a3 c1 c2 c3 js bs hs)(hq:RowF bs.length 4194305 q v w):
 Calls Tryz.prog 24 #[.agg #[.slice a1 js.length c1,.slice a2 bs.length c2,.slice a3 hs.length c3],v] w (Makes w (FormF js.length 402653377 (Cab.barM bs.length q A B))):=by
 refine(Qmq a1 a2 a3 c1 c2 c3 js.length bs.length 4194305 js bs hs A B q v w hf.b rfl rfl hv.n1 hv.n2 hv.e hq (by omega) (by omega)).mono ?_;rintro e w' ⟨G,gs,rfl,hgl,_,V,hb,hgm⟩;exact⟨_,rfl,hb.trans (hgm.base.mono hb.size),G,_,gs,rfl,hgl,hgm.ga⟩
theorem Qby{js:List S2}{bs:List B6}{hs:List H3}{xv yv:Vec}{A B hj hw:Nat->Nat}(hv:CabV js bs hs xv yv A B hj hw):∀k,k<bs.length->A k<js.length/\B k<js.length:=fun k hk=>by
 obtain⟨_,_,h1,h2,_⟩:=hv.e k bs[k] (gE hk);exact⟨h1,h2⟩
theorem Qm8{P:Program}{fn:Func}{p a b c:Tmp}{ty:TypeId}(h:fn.results=#[.tmp a,.tmp b,.tmp c,.cell p ty])(tmps:Array Value)(w:World)(g:Nat)(t:TypeId)(cs:Array Value)(fr:Nat × Nat)(d:TypeDesc)
 (hp:tmps.getD p undef=.pointer (some ⟨g,0,none⟩)) (hg:w.heap[g]?=some (.cells cs t fr))
 (hu:P.underlying ty=some d) (hd:(match d with| .struct _| .array _ _=>true|_=>false)=true) (hi:(P.info? ty).map (·.size)=some cs.size):
 (results fn tmps).run P w=.ok (.tuple #[tmps.getD a undef,tmps.getD b undef,tmps.getD c undef,.agg cs]) w:=by
 have hp':tmps[p]?.getD undef=.pointer (some ⟨g,0,none⟩):=by simpa using hp
 simp[results,h,hp',asAddr,run_loadVar_row w g t ty cs fr d hg hu hd hi]
set_option maxRecDepth 100000 in
set_option maxHeartbeats 4000000 in
theorem Qhb(a1 a2 a3 aq:Option Addr)(c1 c2 c3 cq P b:Nat)(js:List S2)(bs:List B6)(hs:List H3)(qs:List ByteArray)(xv yv q:Vec)(A B hj hw:Nat->Nat)(w:World)(hg:Glob w)(hf:FrRow w a1 a2 a3 c1 c2 c3 js bs hs)(hz:FrSized js bs hs)(hok:FrameFault js bs hs 0 0)(hv:CabV js bs hs xv yv A B hj hw)(hqr:CRow w aq (textsV qs))(hql:qs.length=bs.length)(hqt:QsT qs q)(hP:0<P)(hPb:P<=2 ^ b)(hW:∀k,k<bs.length->Wh P b (q k))(hb19:b<=19000000):
 Calls Tryz.prog 12 #[.agg #[.slice a1 js.length c1,.slice a2 bs.length c2,.slice a3 hs.length c3],.slice aq bs.length cq] w fun e w'=>(∃(ev:Bool) (p m:Nat),e=.returned (.tuple #[.bool ev,.int .i64 p,.int .i64 m,.agg #[.int .i64 0,.int .i64 0]])/\(ev=true↔EvAll js.length js.length (Cab.barM bs.length q A B) xv yv)/\SgnSays js.length (Cab.barM bs.length q A B) p m)/\Below w.heap.size w w':=by
 obtain⟨B0,hB0⟩:=nm w.heap.size;obtain⟨V,hV⟩:=nm ((w.alloc (.cells #[.slice a1 js.length c1,.slice a2 bs.length c2,.slice a3 hs.length c3] 26)).alloc (.cells #[.int .i64 0,.int .i64 0] 31));have hbv:Below w.heap.size w V:=by rw[<-hV];exact Below.new2 w _ _
 have hS0:SB V B0 26 #[.slice a1 js.length c1,.slice a2 bs.length c2,.slice a3 hs.length c3]:=by rw[<-hV,<-hB0];exact(SB.new w _ _).alloc _
 have hS1:SB V (B0+1) 31 #[.int .i64 0,.int .i64 0]:=by rw[<-hV,<-hB0];exact SB.new2 w _ _ _ _
 have HCK:=Hi (Qg7 a1 a2 a3 aq c1 c2 c3 cq js bs hs V (hg.below hbv) (hf.below hbv) hz hok);have HV:=Hi hv;have HG:=Hi hg;have HF:=Hi hf;have HQ:=Hi hqr;have HQL:=Hi hql;have HQT:=Hi hqt;have HP:=Hi (And.intro hP (And.intro hPb (And.intro hW hb19)));have HBV:=Hi hbv;have HS0:=Hi hS0;have HS1:=Hi hS1;have x0:=hS0.cell 0;have x1:=hS0.cell 1;have x2:=hS0.cell 2;simp only[List.getElem?_toArray,List.getElem?_cons_zero,List.getElem?_cons_succ] at x0 x1 x2;rw[<-hV,<-hB0] at x0 x1 x2;have HVE:=Hi hV;have HB0:=Hi hB0;have HLE:Hid (w.heap.size<=B0+1/\B0≠B0+1):=Hi (by omega);clear hg hf hz hok hbv hS0 hS1 hV hB0 hv hqr hql hqt hP hPb hW hb19;go_enter Tryz.func12,Tryz.ntmps12;go_wp2_with fail;rw[HVE.out,HB0.out];go_fit HCK.out;rintro e w1 ⟨rfl,hb1⟩;have h1:=HS1.out.below hb1 HS1.out.lt;have g0:=h1.cell 0;have g1:=h1.cell 1
 simp only[List.getElem?_toArray,List.getElem?_cons_zero,List.getElem?_cons_succ] at g0 g1;have f0:=h1.free 0;have f1:=h1.free 1;obtain⟨U,hU⟩:=nm ((w1.setCell ⟨B0+1,0,none⟩ (.int .i64 0)).setCell ⟨B0+1,1,none⟩ (.int .i64 0));have ho:Only (B0+1) w1 U:=by rw[<-hU];exact((Only.refl (B0+1) w1).setCell 0 (.int .i64 0)).setCell 1 (.int .i64 0)
 have hsu:SB U (B0+1) 31 #[.int .i64 0,.int .i64 0]:=by
  rw[<-hU];have h:=(h1.set 0 (.int .i64 0)).set 1 (.int .i64 0)
  simpa using h
 have hdr:Below U.heap.size U U.drew:=bR.drew;have HS:=Hi (((HS0.out.below hb1 HS0.out.lt).only ho HLE.out.2).below hdr (((HS0.out.below hb1 HS0.out.lt).only ho HLE.out.2).lt));have HE:=Hi (hsu.below hdr hsu.lt);have HBU:=Hi ((Only.fresh (HBV.out.trans (hb1.mono HBV.out.size)) ho HLE.out.1).trans (hdr.mono (Only.fresh (HBV.out.trans (hb1.mono HBV.out.size)) ho HLE.out.1).size));have HUE:=Hi hU;clear x0 x1 x2 hb1 h1 hU ho hsu hdr HCK HVE HB0;go_wp2_with fail;rw[HUE.out];refine RegG.bg 5 (fun j=>match j with|4=>some 8|j=>some (16+j)) ?_;refine RegG.pu (c:=?_) [] (fun w hb=>?_) ?_;rotate_left
 ·
  intro K hK;have hfx:=HS.out.below hb HS.out.lt;obtain⟨d0,d1,d2,-⟩:=zc hfx;clear hfx;go_simp;exact hK
 refine RegG.p0 [] ?_;refine RegG.ca (φ:=RowF bs.length 4194305 q) [1] (RowF.stays _ _ _) (fun w hb=>?_) ?_
 ·
  intro K hK;go_simp;exact Makes.use (Qgy aq cq bs.length 4194305 qs q w (HG.out.below (HBU.out.trans (hb.mono HBU.out.size))) (HQ.out.below (HBU.out.trans (hb.mono HBU.out.size))) (fun i s hi=>HQT.out i s hi) lZ HQL.out (by have:=HV.out.n2;omega)) hK
 refine RegG.ca (φ:=FormF js.length 402653377 (Cab.barM bs.length q A B)) [0,2] (FormF.stays _ _ _) (fun w hb=>?_) ?_
 ·
  intro v2 h2 K hK;go_simp;exact Makes.use (Qha HV.out (HF.out.below (HBU.out.trans (hb.mono HBU.out.size))) h2) hK
 refine RegG.ca (φ:=FormF js.length 402653377 (Cab.barM bs.length q A B)) [3] (FormF.stays _ _ _) (fun w hb=>?_) ?_
 ·
  intro v3 h3 K hK;go_simp;exact hK _ _ bR h3
 refine RegG.fi (fun u hb=>?_);intro v2 _ v3 _ v4 h4;obtain⟨G,BI,gs,rfl,hgl,hga⟩:=h4;obtain⟨rs,hsv⟩:=hga.sqv hgl (Cab.barM_zero (Qby HV.out));have HSG:=Hi (Qmx (some ⟨G,0,none⟩) js.length js.length 402653377 P (b+5) (Cab.barM bs.length q A B) rs u hsv HV.out.n1 (Cab.barM_sym _ _ _ _ _) HP.out.1 (Nat.le_trans HP.out.2.1 (Nat.pow_le_pow_right (by decide) (by omega))) (fun i j=>by
  obtain⟨z,e,hz⟩:=Cab.barM_wh (P:=P) (b:=b) (q:=q) (A:=A) (B:=B) i j bs.length HP.out.2.2.1;refine⟨z,e,Nat.le_trans hz ?_⟩;rw[Nat.pow_add,Nat.mul_comm]
  exact Nat.mul_le_mul_left _ (by have:=HV.out.n2;omega)) (fun i j hj=>Cab.barM_zero (Qby HV.out) i j hj) (by have:=HP.out.2.2.2;simp only[kE];omega) (by omega))
 have HGA:=Hi hga;have HGL:=Hi hgl;have HB2:=Hi (HBU.out.trans (hb.mono HBU.out.size));have HS2:=Hi (HS.out.below hb HS.out.lt);have HE2:=Hi (HE.out.below hb HE.out.lt);clear hgl hga hsv hb g0 g1 f0 f1;go_wp2_with fail;go_fit HSG.out;rintro e w3 ⟨⟨p,m,rfl,hsg⟩,hb3⟩;have HSS:=Hi hsg;have HGA3:=Hi (HGA.out.below hb3);have HB3:=Hi (HB2.out.trans (hb3.mono HB2.out.size));have HS3:=Hi (HS2.out.below hb3 HS2.out.lt);have HE3:=Hi (HE2.out.below hb3 HE2.out.lt);have y0:=HS3.out.cell 0;have y1:=HS3.out.cell 1;have y2:=HS3.out.cell 2;simp only[List.getElem?_toArray,List.getElem?_cons_zero,List.getElem?_cons_succ] at y0 y1 y2
 have HSD:=Hi (Qg6 a1 a2 a3 none c1 c2 c3 0 js.length bs.length hs.length js hs [] w3 (HF.out.below HB3.out).j (HF.out.below HB3.out).h ⟨Nat.le_refl _,⟨fun j u hj=>by simp at hj⟩⟩ rfl rfl HV.out.n1 HV.out.n3 (by simp) (HG.out.below HB3.out) xv yv (fun _=>0) (fun _=>0) (fun _=>0) hj hw HV.out.s (fun k l hl=>by simp at hl) HV.out.h);clear hsg hb3 HSG;go_wp2_with fail;go_fit HSD.out;rintro e w4 ⟨ga,gl,gh,ga',gl',gh',rfl,hb4,⟨us,hxa⟩,_,_,⟨vs,hya⟩,_,_⟩;have hxr:=hxa.rowF.eqF (y:=xv) (fun i hi=>by unfold cutV;rw[if_pos hi]);have hyr:=hya.rowF.eqF (y:=yv) (fun i hi=>by unfold cutV;rw[if_pos hi])
 have HEV:=Hi (Qm6 js.length 402653377 G BI gs (Cab.barM bs.length q A B) xv yv (.slice (some ⟨gl,0,none⟩) js.length js.length) (.slice (some ⟨gh,0,none⟩) js.length js.length) (.slice (some ⟨gl',0,none⟩) js.length js.length) (.slice (some ⟨gh',0,none⟩) js.length js.length) _ _ _ _ w4 (HGA3.out.below hb4) HGL.out hxr hyr HV.out.n1 (by omega));have HB4:=Hi (HB3.out.trans (hb4.mono HB3.out.size));have HE4:=Hi (HE3.out.below hb4 HE3.out.lt);clear y0 y1 y2 hb4 hxa hya hxr hyr HSD;go_wp2_with fail;go_fit HEV.out;rintro e w5 ⟨⟨ev,rfl,hev⟩,hb5⟩;have HEE:=Hi hev;have HB5:=Hi (HB4.out.trans (hb5.mono HB4.out.size));have HE5:=Hi (HE4.out.below hb5 HE4.out.lt);have g0:=HE5.out.cell 0;have g1:=HE5.out.cell 1;simp only[List.getElem?_toArray,List.getElem?_cons_zero,List.getElem?_cons_succ] at g0 g1;have f0:=HE5.out.free 0;have f1:=HE5.out.free 1;clear hev hb5 HEV;go_wp2_with fail
 refine bodyPost_ret (Qm8 rfl _ _ (B0+1) 31 #[.int .i64 0,.int .i64 0] (0,0) _ rfl ((HE5.out.set 0 _).set 1 _) Tryz.underlying31 rfl Tryz.faultInfo) rfl ?_;exact⟨⟨ev,p,m,rfl,HEE.out,HSS.out⟩,(HB5.out.setCell (p:=⟨B0+1,0,none⟩) HLE.out.1 _).setCell (p:=⟨B0+1,1,none⟩) HLE.out.1 _⟩
end Go.Proofs.YtfpcipgoedifaaaGreatDoor
