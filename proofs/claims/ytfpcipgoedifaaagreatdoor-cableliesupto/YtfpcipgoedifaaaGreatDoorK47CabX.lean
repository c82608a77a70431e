/- What the law CableLies makes of Shape's answer; bits. No walk. -/
import Derived.Test.YtfpcipgoedifaaaGreatDoorK46CabO
namespace Go.Proofs.YtfpcipgoedifaaaGreatDoor
open Go.RowKit
set_option linter.unusedVariables false
set_option linter.unusedSimpArgs false
def TwT(x y:ByteArray):Fact:=fun v w=>∃b:Nat,v=.slice (some ⟨b,0,none⟩) 2 2/\SB w b 40 #[.string x,.string y]
theorem TwT.stays(x y:ByteArray):Stays (TwT x y):=fun _ _ _ hb ⟨b,e,h⟩=>⟨b,e,h.below hb h.lt⟩
def TwP(x y:ByteArray)(k:Nat):Fact:=fun v w=>∃b:Nat,v=.pointer (some ⟨b,k,none⟩)/\SB w b 40 #[.string x,.string y]
theorem TwP.stays(x y:ByteArray)(k:Nat):Stays (TwP x y k):=fun _ _ _ hb ⟨b,e,h⟩=>⟨b,e,h.below hb h.lt⟩
set_option maxRecDepth 100000 in
set_option maxHeartbeats 4000000 in
theorem Qng(sb wb i c way J:Nat)(a:Option Addr)(ss:List S2)(s:S2)(tx:ByteArray)(q:Rat)(w:World)(hg:Glob w)(hs:w.cell? ⟨sb,0,none⟩=some (.slice a ss.length c))(hsl:sb<w.heap.size)(hw:w.cell? ⟨wb,0,none⟩=some (.int .i64 way))(hwl:wb<w.heap.size)(hr:ARow S2.cells w a c ss)(hi:ss[i]?=some s)(hx:(way=0/\tx=s.x)∨(way=1/\tx=s.y))(hq:QOf tx.data.toList q)(hz:tx.size<=1073741824)(hf:Fits q J)(hK:0<J):
 Calls Tryz.prog 9 #[.int .i64 i,.pointer (some ⟨sb,0,none⟩),.pointer (some ⟨wb,0,none⟩)] w (Makes w (RF q J)):=by
 obtain⟨Y,hY⟩:=nm w.drew;have hb:Below w.heap.size w Y:=by rw[<-hY];exact(Below.refl _ _).drew
 obtain⟨b1,o1,rfl,h1,d1,d2⟩:=(hr.below hb).spot hi;have HG:=Hi (hg.below hb);have HS0:=Hi (ce hb hsl hs);have HW0:=Hi (ce hb hwl hw);have HLT:Hid (sb<Y.heap.size/\wb<Y.heap.size):=Hi ⟨Nat.lt_of_lt_of_le hsl hb.size,Nat.lt_of_lt_of_le hwl hb.size⟩;have HX1:=Hi d1;have HY1:=Hi d2;have HL1:=Hi h1;have HQ:=Hi hq;have HZ:=Hi (And.intro hz (And.intro hf hK));have HYE:=Hi hY;have HBY:=Hi hb;have q1:((i:Int)<(ss.length:Int)):=by have:=(gZ hi).1;omega
 clear hg hs hw hr hi hq hz hf hY hb h1 d1 d2 hsl hwl hK;have q2:((way:Int)<2):=by omega
 have HTX:=Hi (show ∀x y:ByteArray,x=s.x->y=s.y->(#[.string x,.string y]:Array Value)[way]?=some (.string tx) by
  rintro x y rfl rfl
  rcases hx with ⟨rfl,rfl⟩|⟨rfl,rfl⟩<;>rfl)
 clear hx;go_enter Tryz.func9,Tryz.ntmps9;go_wp2_with fail;refine RegG.bg 15 (fun j=>some (bif j == 15 then 4 else 5+j)) ?_;rw[HYE.out];refine RegG.pu (c:=?_) [] (fun w hb=>?_) ?_;rotate_left
 ·
  intro K hK;have d0:=ce hb HLT.out.1 HS0.out;go_simp;exact hK
 refine RegG.p0 [] ?_;refine RegG.p0 [0,1] ?_;refine RegG.p0 [2] ?_;refine RegG.pu (c:=?_) [3] (fun w hb=>?_) ?_;rotate_left
 ·
  intro K hK;have d0:=ce hb HL1.out HX1.out;go_simp;exact hK
 refine RegG.pu (c:=?_) [] (fun w hb=>?_) ?_;rotate_left
 ·
  intro K hK;have d0:=ce hb HLT.out.1 HS0.out;go_simp;exact hK
 refine RegG.p0 [] ?_;refine RegG.p0 [5,6] ?_;refine RegG.p0 [7] ?_;refine RegG.pu (c:=?_) [8] (fun w hb=>?_) ?_;rotate_left
 ·
  intro K hK;have d0:=ce hb HL1.out HY1.out;go_simp;exact hK
 refine RegG.ca (φ:=TwT s.x s.y) [4,9] (TwT.stays _ _) (fun w hb=>?_) ?_
 ·
  intro K hK;go_simp;exact hK _ _ (bR.alloc lZ _) ⟨w.heap.size,rfl,SB.new w _ _⟩
 refine RegG.pu (c:=?_) [] (fun w hb=>?_) ?_;rotate_left
 ·
  intro K hK;have d0:=ce hb HLT.out.2 HW0.out;go_simp;exact hK
 refine RegG.ca (φ:=TwP s.x s.y way) [10,11] (TwP.stays _ _ _) (fun w hb=>?_) ?_
 ·
  rintro v ⟨b,rfl,h⟩;intro K hK;go_simp;exact hK _ _ bR ⟨b,rfl,h⟩
 refine RegG.ca (φ:=Is (.string tx)) [12] (Is.stays _) (fun w hb=>?_) ?_
 ·
  rintro v ⟨b,rfl,h⟩;have d0:=(h.cell way).trans (HTX.out _ _ rfl rfl);intro K hK;go_simp;exact hK _ _ bR rfl
 refine RegG.ca (φ:=RF q J) [13] (RF.stays _ _) (fun w hb=>?_) ?_
 ·
  intro K hK;go_simp;exact Makes.use (RF.of (HG.out.below hb) HQ.out HZ.out.1 HZ.out.2.1 HZ.out.2.2) hK
 refine RegG.last (by simp only[List.nil_append,List.cons_append,List.length_append,List.length_cons,List.length_nil,Nat.reduceAdd]) (by rfl) (by rfl) (by kernel_rfl) (fun u hb=>?_);simp only[FinG,List.nil_append,List.cons_append,Qaf,Act.put,List.setIfInBounds_toArray,List.set_cons_zero,List.set_cons_succ,Nat.reduceAdd,Nat.reduceBEq,cond_true,cond_false];intro v1 _ v2 _ v h;intro K hK;go_simp;refine hK _ _ ?_;have HV:=Hi h;have HB:=Hi (HBY.out.trans (hb.mono HBY.out.size));clear hK h hb;go_wp2;go_ret;exact⟨v,rfl,HB.out,HV.out⟩
set_option maxRecDepth 100000 in
set_option maxHeartbeats 4000000 in
theorem Qsd(a:Option Addr)(cap n K:Nat)(ls:List ByteArray)(y:Nat->Rat)(w:World)(hg:Glob w)(h:CRow w a (textsV ls))(hy:∀(i:Nat) (s:ByteArray),ls[i]?=some s->QOf s.data.toList (y i)/\s.size<=1073741824/\Fits (y i) K)(hK:0<K)(hn:ls.length=n)(hl:n<=1000):
 Calls Tryz.prog 6 #[.slice a n cap] w fun e w'=>∃(v:Value) (ts:List RT),e=.returned v/\PGrow w' w.heap.size v ts/\ts.length=n/\(∀(i:Nat) (t:RT),ts[i]?=some t->t.2.1=y i/\t.2.2=K)/\Below w.heap.size w w':=by
 have HH:=Hi h;have HG:=Hi hg;have HHY:=Hi hy;have HN:=Hi hn;clear h hg hy hn;go_enter Tryz.func6,Tryz.ntmps6;go_wp2_with fail;go_loopw [3,8] (fun ov iv wr=>∃(k:Nat) (ts:List RT),k<=n/\iv=.int .i64 k/\PGrow wr w.heap.size ov ts/\ts.length=k/\(∀(i:Nat) (t:RT),ts[i]?=some t->t.2.1=y i/\t.2.2=K)/\Below w.heap.size w wr) (fun _ iv _=>n - (intOf iv).toNat)
 case atStart=>exact⟨0,[],Nat.zero_le _,rfl,PGrow.nil _ _,rfl,fun i t ht=>by simp at ht,Below.refl _ _⟩
 case round=>
  obtain⟨k,ts,hk,rfl,hpg,htl,hty,hbw⟩:=hrel;obtain⟨oa,oc,hov,_⟩:=hpg.row;have HPG:=Hi hpg;have HTL:=Hi htl;have HTY:=Hi hty;have HBW:=Hi hbw;subst hov;clear hpg htl hty hbw;by_cases hlt:k<n
  ·
   obtain⟨s,hs⟩:∃s,ls[k]?=some s:=⟨ls[k]'(by have:=HN.out;omega),gE _⟩;obtain⟨b,off,rfl,hb,x0⟩:=(HH.out.below HBW.out).cell k (.string s) (by unfold textsV;rw[List.getElem?_map,hs];rfl);have HYK:=Hi (HHY.out k s hs);have q1:((k:Int)<(n:Int)):=by omega
   clear hs;go_wp2_with fail;refine Makes.use (RF.of (HG.out.below HBW.out) HYK.out.1 HYK.out.2.1 HYK.out.2.2 hK) ?_;rintro _ w2 hb2 ⟨bn,rfl,hrv,hfit,hk0⟩;have HB2:=Hi (HBW.out.trans (hb2.mono HBW.out.size));have hpg2:=HPG.out.below hb2;obtain⟨Y,hY⟩:=nm (w2.alloc (.cells #[.pointer (some ⟨bn,0,none⟩)] 35));have hbY:Below w2.heap.size w2 Y:=by rw[<-hY];exact(Below.refl _ _).alloc lZ _
   have hcY:SB Y w2.heap.size 35 #[.pointer (some ⟨bn,0,none⟩)]:=by rw[<-hY];exact SB.new w2 _ _
   obtain⟨v',w',happ,hgn,hbn,_⟩:=(hpg2.below hbY).app (us:=[(bn,y k,K)]) (nb:=w2.heap.size) (c:=1) (m:=1) (fun t ht=>by
    obtain rfl:=List.mem_singleton.1 ht
    exact⟨hrv.below hbY,hfit,hk0⟩) rfl (fun j u hj=>by
    cases j with
    |zero=>cases hj;exact(hcY.cell 0).trans rfl
    |succ j=>simp at hj) (by have:=HTL.out;omega) (Nat.le_trans HB2.out.size hbY.size) 33
   rw[<-hY] at happ;have HGN:=Hi hgn;have HBN:Hid (Below w.heap.size w w'):=Hi ((HB2.out.trans (hbY.mono HB2.out.size)).trans hbn);clear hb2 hpg2 hY hbY hcY hgn hbn hrv hfit hk0 x0;go_wp2;go_roundw
   case rel=>
    refine⟨k+1,ts++ [(bn,y k,K)],by omega,by go_num,HGN.out,by simp[HTL.out],fun i t' ht'=>?_,HBN.out⟩;rcases Nat.lt_or_ge i k with hi|hi
    · rw[List.getElem?_append_left (by have:=HTL.out;omega)] at ht'
      exact HTY.out i t' ht'
    ·
     have hil:=(gZ ht').1;rw[List.length_append,HTL.out] at hil;obtain rfl:i=k:=by simp at hil;omega
     rw[List.getElem?_append_right (by have:=HTL.out;omega),HTL.out,Nat.sub_self] at ht';cases ht';exact⟨rfl,rfl⟩
   case measure=>simp[intOf];omega
  ·
   obtain rfl:k=n:=by omega
   go_wp2;go_ret;exact⟨_,ts,rfl,HPG.out,HTL.out,HTY.out,HBW.out⟩
def PlaT(ps:List S2)(x y:Vec)(J:Nat):Prop:=∀(k:Nat) (s:S2),ps[k]?=some s->QOf s.x.data.toList (x k)/\QOf s.y.data.toList (y k)/\s.x.size<=1073741824/\s.y.size<=1073741824/\Fits (x k) J/\Fits (y k) J
def sq2(x y:Vec)(A B:Nat->Nat):Vec:=fun k=>(x (A k) - x (B k))*(x (A k) - x (B k))+(y (A k) - y (B k))*(y (A k) - y (B k))
theorem Qnh(k J:Nat):k*(9*J+7)+1+(J+(J+J+1+(J+J+1)+(J+J+1+(J+J+1))+1))+1<=(k+1)*(9*J+7)+1:=by
 rw[show (k+1)*(9*J+7)=k*(9*J+7)+(9*J+7) from Nat.succ_mul _ _];generalize k*(9*J+7)=Z;omega
set_option maxRecDepth 100000 in
set_option maxHeartbeats 4000000 in
theorem Qni(fb pb n J c2 cp cr:Nat)(a2 ap ar:Option Addr)(v1 v3:Value)(bs:List B6)(ps:List S2)(ts:List RT)(q x y:Vec)(A B:Nat->Nat)(w:World)(hg:Glob w)(hf:SB w fb 26 #[v1,.slice a2 bs.length c2,v3])(hp:SB w pb 33 #[.slice ar bs.length cr])(hbr:ARow B6.cells w a2 c2 bs)(hpr:ARow S2.cells w ap cp ps)(htr:PRow w ar ts)(htl:ts.length=bs.length)(htq:∀(i:Nat) (t:RT),ts[i]?=some t->t.2.1=q i/\t.2.2=J)(hpl:ps.length=n)(hpt:PlaT ps x y J)(he:EndsOf n bs A B)(hJ:0<J)(hJ2:J<=400000000)(hm:bs.length<=24)(hn:n<=1000):
 Calls Tryz.prog 13 #[.slice ap n cp,.pointer (some ⟨fb,0,none⟩),.pointer (some ⟨pb,0,none⟩)] w (Makes w (RF (dot bs.length q (sq2 x y A B)) (24*(9*J+7)+1))):=by
 have HG:=Hi hg;have HFB:=Hi hf;have HPB:=Hi hp;have HBR:=Hi hbr;have HPR:=Hi hpr;have HTR:=Hi htr;have HTQ:=Hi htq;have HTL:=Hi htl;have HPT:=Hi hpt;have HEN:=Hi he;have HPL:=Hi hpl;have HM:=Hi (And.intro hm (And.intro hJ hJ2));have q0:=hn;obtain⟨g,hg'⟩:∃g,w.heap.size=g:=⟨_,rfl⟩;obtain⟨V,hV⟩:=nm (w.alloc (.cells #[.bool false,.slice none 0 0,.bool false,.slice none 0 0] 55));have hbV:Below w.heap.size w V:=by rw[<-hV];exact(Below.refl _ _).alloc lZ _
 have HBV:=Hi hbV;have HRV:Hid (RatVal V g 0):=Hi (by rw[<-hV,<-hg'];exact Qa1 w);have f1:=(hf.below hbV hf.lt).cell 1;simp only[List.getElem?_toArray,List.getElem?_cons_zero,List.getElem?_cons_succ] at f1;rw[<-hV] at f1;have HVE:=Hi hV;have HGE:=Hi hg';clear hg hf hp hbr hpr htr htq htl hpt he hpl hJ hJ2 hm hV hbV hg';go_enter Tryz.func13,Tryz.ntmps13;go_wp2_with fail;rw[HVE.out,HGE.out];clear f1;go_loopw [14] (fun iv wr=>∃k:Nat,k<=bs.length/\iv=.int .i64 k/\RatVal wr g (dot k q (sq2 x y A B))/\Fits (dot k q (sq2 x y A B)) (k*(9*J+7)+1)/\Below w.heap.size w wr) (fun iv _=>bs.length - (intOf iv).toNat)
 case atStart=>exact⟨0,Nat.zero_le _,rfl,HRV.out,Fits.zero.mono (by omega),HBV.out⟩
 case round=>
  obtain⟨k,hk,rfl,hrv,hft,hbw⟩:=hrel;have HRV:=Hi hrv;have HFT:=Hi hft;have HB:=Hi hbw;clear hrv hft hbw;by_cases hkx:k<bs.length
  ·
   obtain⟨b,hbk⟩:∃b,bs[k]?=some b:=⟨bs[k],gE hkx⟩;obtain⟨ea,eb,lA,lB,_⟩:=HEN.out k b hbk;obtain⟨A1,hA1⟩:=nm (A k);obtain⟨B1,hB1⟩:=nm (B k);have HAB:=Hi (And.intro hA1 hB1);rw[hA1] at ea lA;rw[hB1] at eb lB;obtain⟨s,hs⟩:∃s,ps[A1]?=some s:=⟨ps[A1]'(by have:=HPL.out;omega),gE _⟩;obtain⟨t,ht⟩:∃t,ps[B1]?=some t:=⟨ps[B1]'(by have:=HPL.out;omega),gE _⟩;obtain⟨r,hr⟩:∃r,ts[k]?=some r:=⟨ts[k]'(by have:=HTL.out;omega),gE _⟩;have HSQ:=Hi (HPT.out A1 s hs);have HTT:=Hi (HPT.out B1 t ht);have HRQ:=Hi (HTQ.out k r hr);have HRR:=Hi (HTR.out.vs r (mO hr));obtain⟨b0,bo,rfl,hbl,D0,D1,D2,D3,D4,D5⟩:=(HBR.out.below HB.out).bar hbk;rw[ea] at D0;rw[eb] at D1;have q1:((k:Int)<(bs.length:Int)):=by omega
   have q2:((A1:Int)<(n:Int)):=by omega
   have q3:((B1:Int)<(n:Int)):=by omega
   obtain⟨bx,hbx⟩:=nm wr.heap.size;obtain⟨U,hU⟩:=nm (wr.alloc (.cells #[.int .i64 A1,.int .i64 B1,.string b.c,.string b.e,.string b.l,.string b.m] 47));obtain⟨Y,hY⟩:=nm U.drew;have hbY:Below wr.heap.size wr Y:=by rw[<-hY,<-hU];exact(bR.alloc lZ _).drew
   have hbW:=HB.out.trans (hbY.mono HB.out.size);have HBA:Hid (SB Y bx 47 #[.int .i64 A1,.int .i64 B1,.string b.c,.string b.e,.string b.l,.string b.m]):=Hi (by rw[<-hY,<-hU,<-hbx];exact(SB.new wr _ _).drew);obtain⟨gp,op,rfl,hl1,hx1,hy1⟩:=(HPR.out.below hbW).spot hs;obtain⟨_,_,ee,_,hx2,hy2⟩:=(HPR.out.below hbW).spot ht;cases ee;obtain⟨gr,oq,rfl,hgl,hp1⟩:=(HTR.out.below hbW).at hr;have HL1:=Hi hl1;have HX1:=Hi hx1;have HY1:=Hi hy1;have HX2:=Hi hx2;have HY2:=Hi hy2;have HP1:=Hi (And.intro hgl hp1);have HBW:=Hi hbW;have HRY:=Hi (HRV.out.below hbY);have HUE:=Hi hU;have HYE:=Hi hY;have HBX:=Hi hbx;have HKX:=Hi hkx;have HK:Hid (J+J<274877906000/\J+J+1+(J+J+1)<274877906000/\J+J+1+(J+J+1)+(J+J+1+(J+J+1))<274877906000/\J+(J+J+1+(J+J+1)+(J+J+1+(J+J+1))+1)<274877906000):=Hi (by have:=HM.out.2.2;omega);clear hbk ea eb lA lB hA1 hB1 hs ht hr hU hY hbY hbW hbx hl1 hx1 hy1 hx2 hy2 hgl hp1;go_wp2_with fail
   refine RegG.bg 32 (fun j=>match j with|30=>some 8|31=>some 9|j=>some (19+j)) ?_;rw[HUE.out,HYE.out,HBX.out];clear D0 D1 D2 D3 D4 D5;refine RegG.p0 [] ?_;refine RegG.p0 [] ?_;refine RegG.pu (c:=?_) [1] (fun w hb=>?_) ?_;rotate_left
   ·
    intro K hK;have d0:=(HBA.out.below hb HBA.out.lt).cell 0;simp only[List.getElem?_toArray,List.getElem?_cons_zero] at d0;go_simp;exact hK
   refine RegG.p0 [0,2] ?_;refine RegG.p0 [3] ?_;refine RegG.pu (c:=?_) [4] (fun w hb=>?_) ?_;rotate_left
   ·
    intro K hK;have d0:=ce hb HL1.out HX1.out;go_simp;exact hK
   refine RegG.ca (φ:=RF (x A1) J) [5] (RF.stays _ _) (fun w hb=>?_) ?_
   ·
    skip;intro K hK;go_simp;exact Makes.use (RF.of (HG.out.below (HBW.out.trans (hb.mono HBW.out.size))) HSQ.out.1 HSQ.out.2.2.1 HSQ.out.2.2.2.2.1 HM.out.2.1) hK
   refine RegG.p0 [] ?_;refine RegG.p0 [] ?_;refine RegG.pu (c:=?_) [8] (fun w hb=>?_) ?_;rotate_left
   ·
    intro K hK;have d0:=(HBA.out.below hb HBA.out.lt).cell 1;simp only[List.getElem?_toArray,List.getElem?_cons_zero,List.getElem?_cons_succ] at d0;go_simp;exact hK
   refine RegG.p0 [7,9] ?_;refine RegG.p0 [10] ?_;refine RegG.pu (c:=?_) [11] (fun w hb=>?_) ?_;rotate_left
   ·
    intro K hK;have d0:=ce hb HL1.out HX2.out;go_simp;exact hK
   refine RegG.ca (φ:=RF (x B1) J) [12] (RF.stays _ _) (fun w hb=>?_) ?_
   ·
    skip;intro K hK;go_simp;exact Makes.use (RF.of (HG.out.below (HBW.out.trans (hb.mono HBW.out.size))) HTT.out.1 HTT.out.2.2.1 HTT.out.2.2.2.2.1 HM.out.2.1) hK
   refine RegG.ca (φ:=RF (x A1 - x B1) (J+J+1)) [6,13] (RF.stays _ _) (fun w hb=>?_) ?_
   ·
    intro v h v' h';intro K hK;go_simp;exact Makes.use (RF.sub h h' HK.out.1) hK
   refine RegG.p0 [] ?_;refine RegG.p0 [] ?_;refine RegG.pu (c:=?_) [16] (fun w hb=>?_) ?_;rotate_left
   ·
    intro K hK;have d0:=(HBA.out.below hb HBA.out.lt).cell 0;simp only[List.getElem?_toArray,List.getElem?_cons_zero] at d0;go_simp;exact hK
   refine RegG.p0 [15,17] ?_;refine RegG.p0 [18] ?_;refine RegG.pu (c:=?_) [19] (fun w hb=>?_) ?_;rotate_left
   ·
    intro K hK;have d0:=ce hb HL1.out HY1.out;go_simp;exact hK
   refine RegG.ca (φ:=RF (y A1) J) [20] (RF.stays _ _) (fun w hb=>?_) ?_
   ·
    skip;intro K hK;go_simp;exact Makes.use (RF.of (HG.out.below (HBW.out.trans (hb.mono HBW.out.size))) HSQ.out.2.1 HSQ.out.2.2.2.1 HSQ.out.2.2.2.2.2 HM.out.2.1) hK
   refine RegG.p0 [] ?_;refine RegG.p0 [] ?_;refine RegG.pu (c:=?_) [23] (fun w hb=>?_) ?_;rotate_left
   ·
    intro K hK;have d0:=(HBA.out.below hb HBA.out.lt).cell 1;simp only[List.getElem?_toArray,List.getElem?_cons_zero,List.getElem?_cons_succ] at d0;go_simp;exact hK
   refine RegG.p0 [22,24] ?_;refine RegG.p0 [25] ?_;refine RegG.pu (c:=?_) [26] (fun w hb=>?_) ?_;rotate_left
   ·
    intro K hK;have d0:=ce hb HL1.out HY2.out;go_simp;exact hK
   refine RegG.ca (φ:=RF (y B1) J) [27] (RF.stays _ _) (fun w hb=>?_) ?_
   ·
    skip;intro K hK;go_simp;exact Makes.use (RF.of (HG.out.below (HBW.out.trans (hb.mono HBW.out.size))) HTT.out.2.1 HTT.out.2.2.2.1 HTT.out.2.2.2.2.2 HM.out.2.1) hK
   refine RegG.ca (φ:=RF (y A1 - y B1) (J+J+1)) [21,28] (RF.stays _ _) (fun w hb=>?_) ?_
   ·
    intro v h v' h';intro K hK;go_simp;exact Makes.use (RF.sub h h' HK.out.1) hK
   refine RegG.ca (φ:=RF (x A1 - x B1) (J+J+1)) [14] (RF.stays _ _) (fun w hb=>?_) ?_
   ·
    intro v h K hK;go_simp;exact hK _ _ bR h
   refine RegG.ca (φ:=RF (y A1 - y B1) (J+J+1)) [29] (RF.stays _ _) (fun w hb=>?_) ?_
   ·
    intro v h K hK;go_simp;exact hK _ _ bR h
   refine RegG.fi (fun u hb=>?_);intro z0 _ z1 _ z2 _ z3 _ z4 _ z5 _ v8 h8 v9 h9;obtain⟨Y2,hY2⟩:=nm u.drew;have hb2:Below Y.heap.size Y Y2:=by rw[<-hY2];exact hb.drew
   have hbU:=HBW.out.trans (hb2.mono HBW.out.size);have hP8:RF (x A1 - x B1) (J+J+1) v8 Y2:=by rw[<-hY2];exact h8.below bR.drew
   have hP9:RF (y A1 - y B1) (J+J+1) v9 Y2:=by rw[<-hY2];exact h9.below bR.drew
   have H8:=Hi hP8;have H9:=Hi hP9;have HPB2:=Hi (HPB.out.below hbU HPB.out.lt);have HP2:=Hi (ce hb2 HP1.out.1 HP1.out.2);have HGR:Hid (gr<Y2.heap.size):=Hi (Nat.lt_of_lt_of_le HP1.out.1 hb2.size);have HRF:Hid (RF (q k) J (.pointer (some ⟨r.1,0,none⟩)) Y2):=Hi ⟨r.1,rfl,HRQ.out.1 ▸ HRR.out.1.below hbU,HRQ.out.1 ▸ HRQ.out.2 ▸ HRR.out.2.1,HM.out.2.1⟩;have HRV2:=Hi (HRY.out.below hb2);have HBU:=Hi hbU;have HYU:=Hi hY2;clear hb hb2 hbU hP8 hP9 h8 h9 hY2 HRY HBW HBA HX1 HY1 HX2 HY2 HL1 HP1;go_wp2_with fail;refine RegG.bg 14 (fun j=>some (49+j)) ?_;rw[HYU.out];refine RegG.p0 [] ?_;refine RegG.p0 [] ?_;refine RegG.pu (c:=?_) [] (fun w hb=>?_) ?_;rotate_left
   ·
    intro K hK;have d0:=(HPB2.out.below hb HPB2.out.lt).cell 0;simp only[List.getElem?_toArray,List.getElem?_cons_zero] at d0;go_simp;exact hK
   refine RegG.p0 [] ?_;refine RegG.p0 [2,3] ?_;refine RegG.pu (c:=?_) [4] (fun w hb=>?_) ?_;rotate_left
   ·
    intro K hK;have d0:=ce hb HGR.out HP2.out;go_simp;exact hK
   refine RegG.p0 [] ?_;refine RegG.p0 [] ?_;refine RegG.ca (φ:=RF ((x A1 - x B1)*(x A1 - x B1)) (J+J+1+(J+J+1))) [6,7] (RF.stays _ _) (fun w hb=>?_) ?_
   ·
    skip;intro K hK;go_simp;exact Makes.use (RF.mul (H8.out.below hb) (H8.out.below hb) HK.out.2.1) hK
   refine RegG.p0 [] ?_;refine RegG.p0 [] ?_;refine RegG.ca (φ:=RF ((y A1 - y B1)*(y A1 - y B1)) (J+J+1+(J+J+1))) [9,10] (RF.stays _ _) (fun w hb=>?_) ?_
   ·
    skip;intro K hK;go_simp;exact Makes.use (RF.mul (H9.out.below hb) (H9.out.below hb) HK.out.2.1) hK
   refine RegG.ca (φ:=RF ((x A1 - x B1)*(x A1 - x B1)+(y A1 - y B1)*(y A1 - y B1)) (J+J+1+(J+J+1)+(J+J+1+(J+J+1))+1)) [8,11] (RF.stays _ _) (fun w hb=>?_) ?_
   ·
    intro v h v' h';intro K hK;go_simp;exact Makes.use (RF.add h h' HK.out.2.2.1) hK
   refine RegG.ca (φ:=RF (q k*((x A1 - x B1)*(x A1 - x B1)+(y A1 - y B1)*(y A1 - y B1))) (J+(J+J+1+(J+J+1)+(J+J+1+(J+J+1))+1))) [5,12] (RF.stays _ _) (fun w hb=>?_) ?_
   ·
    intro v h;intro K hK;go_simp;exact Makes.use (RF.mul (HRF.out.below hb) h HK.out.2.2.2) hK
   refine RegG.last (by simp only[List.nil_append,List.cons_append,List.length_append,List.length_cons,List.length_nil,Nat.reduceAdd]) (by rfl) (by rfl) (by kernel_rfl) (fun u3 hb=>?_);simp only[FinG,List.nil_append,List.cons_append,Qaf,Act.put,List.setIfInBounds_toArray,List.set_cons_zero,List.set_cons_succ,Nat.reduceAdd,Nat.reduceBEq,cond_true,cond_false];intro y0 _ y1 _ y2 _ y3 h3;intro K hK;obtain⟨bq,rfl,hqv,hqf,_⟩:=h3;have HAD:=Hi (Qjv g g bq (k*(9*J+7)+1) (J+(J+J+1+(J+J+1)+(J+J+1+(J+J+1))+1)) (dot k q (sq2 x y A B)) (q k*((x A1 - x B1)*(x A1 - x B1)+(y A1 - y B1)*(y A1 - y B1))) u3 (HRV2.out.below hb).room (HRV2.out.below hb) hqv HFT.out hqf (by have:=Nat.mul_le_mul_right (9*J+7) (Nat.le_trans (Nat.le_of_lt hkx) HM.out.1);have:=HM.out.2.2;omega));have HQF:=Hi hqf;have HBV3:=Hi (HBU.out.trans (hb.mono HBU.out.size));clear hqv hqf hb;go_simp;go_fit HAD.out;rintro e w6 hok
   have HRN:=Hi (RatOk.val hok);obtain⟨rfl,hon,_⟩:=hok;have HB6:=Hi (HBV3.out.trans (hon.below (show w.heap.size<=g by have:=HGE.out;omega) HBV3.out.size));refine hK _ _ ?_;clear hK hon HAD;have hkk:=HKX.out;have hmm:=HM.out.1;go_wp2;go_roundw
   case rel=>
    have hdk:dot (k+1) q (sq2 x y A B)=dot k q (sq2 x y A B)+q k*((x A1 - x B1)*(x A1 - x B1)+(y A1 - y B1)*(y A1 - y B1)):=by
     show dot k q (sq2 x y A B)+q k*sq2 x y A B k=_
     unfold sq2;rw[HAB.out.1,HAB.out.2]
    refine⟨k+1,hkk,(by go_num),?_,?_,HB6.out⟩
    · rw[hdk];exact HRN.out
    · rw[hdk];exact(HFT.out.add HQF.out).mono (Qnh k J)
   case measure=>simp[intOf];omega
  ·
   obtain rfl:k=bs.length:=by omega
   go_wp2;go_ret;exact⟨_,rfl,HB.out,g,rfl,HRV.out,HFT.out.mono (by have:=Nat.mul_le_mul_right (9*J+7) HM.out.1;omega),by omega⟩
theorem Qnk{n m i:Nat}{q x ld Z:Vec}{A B:Nat->Nat}{fr:Nat->Bool}(hq:∀k,k<m->0<q k)(hne:∀k,k<m->A k≠B k)(hAB:∀k,k<m->A k<n/\B k<n)(hu:LiesU n (Cab.barM m q A B) fr x ld Z)(hi:i<n)(hf:fr i=true)(hl:ld i=0)(s:Rat)(hs:s=1∨s= -1):
 ∃k,k<m/\(A k=i∨B k=i)/\¬0<(Z (A k+B k - i) - Z i)*s:=by
 apply bC;intro hno;have hall:∀k,k<m->A k=i∨B k=i->0<(Z (A k+B k - i) - Z i)*s:=fun k hk hab=>bC fun h=>hno ⟨k,hk,hab,h⟩
 have hrow:=hu.1.2 i hi hf;rw[hl,Cab.barM_row Z i m hAB] at hrow;have hz:=Cab.tutte hq hne hrow s hs hall;have hcol:∀r,Cab.barM m q A B r i=0:=fun r=>Qam _ _ _ fun k hk=>by
  have:=hz k hk;have h0:Cab.ek A B k i=0:=by
   unfold Cab.ek;rw[if_neg this.1,if_neg this.2];grind
  rw[h0,Rat.mul_zero,Rat.mul_zero]
 have hY:∀r,dot n (Cab.barM m q A B r) (fun j=>if j=i then Z i+1 else Z j)=dot n (Cab.barM m q A B r) Z:=fun r=>by
  refine Qae _ _ _ _ _ fun j _=>?_
  by_cases e:j=i
  · subst e
    rw[hcol,Rat.zero_mul,Rat.zero_mul]
  · simp only[if_neg e]
 have h1:=hu.2 (fun j=>if j=i then Z i+1 else Z j) ⟨fun j hj hfj=>by
  by_cases e:j=i
  · subst e;rw[hf] at hfj;cases hfj
  · simp only[if_neg e];exact hu.1.1 j hj hfj,fun j hj hfj=>by rw[hY];exact hu.1.2 j hj hfj⟩ i hi
 simp only[if_pos rfl] at h1;grind
theorem Qhg{n m:Nat}{q x y:Vec}{A B:Nat->Nat}(hAB:∀k,k<m->A k<n/\B k<n):dot m q (sq2 x y A B)=Cab.form n (Cab.barM m q A B) x+Cab.form n (Cab.barM m q A B) y:=by
 rw[Cab.barM_form x m hAB,Cab.barM_form y m hAB]
 induction m with
 |zero=>show (0:Rat)=0+0;grind
 |succ m ih=>
  have:=ih fun k hk=>hAB k (by omega)
  simp only[dot];rw[this];unfold sq2;grind
theorem Qnl{n m:Nat}{q x y:Vec}{A B:Nat->Nat}(hAB:∀k,k<m->A k<n/\B k<n)(he:EvAll n n (Cab.barM m q A B) x y):dot m q (sq2 x y A B)=0:=by
 rw[Qhg hAB];have h1:Cab.form n (Cab.barM m q A B) x=0:=Qam _ _ _ fun i hi=>by rw[(he i hi).1];exact Rat.mul_zero _
 have h2:Cab.form n (Cab.barM m q A B) y=0:=Qam _ _ _ fun i hi=>by rw[(he i hi).2];exact Rat.mul_zero _
 rw[h1,h2];grind
theorem Qhh{n m p:Nat}{q x y:Vec}{A B:Nat->Nat}(hAB:∀k,k<m->A k<n/\B k<n)(hs:SgnSays n (Cab.barM m q A B) p 0):0<=dot m q (sq2 x y A B):=by
 rw[Qhg hAB];exact Rat.add_nonneg (hs.1 rfl x) (hs.1 rfl y)
end Go.Proofs.YtfpcipgoedifaaaGreatDoor
namespace Go.Proofs.YtfpcipgoedifaaaGreatDoor
set_option linter.unusedVariables false
set_option linter.unusedSimpArgs false
theorem IsDec.lenG{d:List UInt8}{n K:Nat}(h:IsDec d n)(hn:n<2 ^ K):d.length<=K / 3+1:=by
 have h10:n<10 ^ (K / 3+1):=Nat.lt_of_lt_of_le hn (Nat.le_trans (Nat.pow_le_pow_right (by decide) (show K<=3*(K / 3+1) by omega)) (by rw[Nat.pow_mul];exact Nat.pow_le_pow_left (by decide) _));rcases h with ⟨_,rfl⟩|⟨_,ds,hd,rfl⟩
 · simp
 · have:=hd.length_le_of_lt (k:=K / 3+1) (by decide) h10
   simpa using this
theorem QText.lenG{s:ByteArray}{q:Rat}{K:Nat}(h:QText s.data.toList q)(hq:Fits q K):s.size<=2*(K / 3)+4:=by
 obtain⟨m,⟨k,hk,rfl⟩,h⟩:=h;have h2:=hk.lenG hq.1;have h3:(if q.num<0 then 45 :: k else k).length<=k.length+1:=by split<;>simp
 have h4:s.data.toList.length=s.size:=by simp
 rcases h with ⟨_,h⟩|⟨_,d,hd,h⟩
 · rw[h] at h4;omega
 ·
  have h5:=hd.lenG hq.2;rw[h,List.length_append,List.length_cons] at h4;omega
def jW:List S2->Nat
 | []=>0
 |s :: l=>s.x.size+s.y.size+jW l
theorem Qil:∀{l:List S2} {s:S2},s∈ l->s.x.size<=jW l/\s.y.size<=jW l
 |t :: l,s,h=>by
  rcases List.mem_cons.1 h with rfl|h
  · simp only[jW];omega
  · have:=Qil h;simp only[jW];omega
theorem Qph(s:ByteArray):s.data.toList.length=s.size:=by rw[Array.length_toList];rfl
theorem QOf.fits'{s:ByteArray}{q:Rat}{n:Nat}(h:QOf s.data.toList q)(hn:s.size<=n):Fits q (4*n+1):=h.fits (by rw[Qph];exact hn)
theorem Qim:∀js:List S2,∃l:List (Rat × Nat),(∀p,p∈ l->Fits p.1 p.2)/\(l.map (·.2)).sum=4*jW js+2*js.length/\∀s,s∈ js->∀x y,QOf s.x.data.toList x->QOf s.y.data.toList y->x∈ l.map (·.1)/\y∈ l.map (·.1)
 | []=>⟨[],(fun p hp=>by cases hp),rfl,(fun s hs=>by cases hs)⟩
 |s :: js=>by
  obtain⟨l,h1,h2,h3⟩:=Qim js;obtain⟨x,hx⟩:=QOf.ex s.x.data.toList;obtain⟨y,hy⟩:=QOf.ex s.y.data.toList;refine⟨(x,4*s.x.size+1) :: (y,4*s.y.size+1) :: l,fun p hp=>?_,?_,fun t ht u v hu hv=>?_⟩
  ·
   rcases List.mem_cons.1 hp with rfl|hp
   · exact hx.fits' lZ
   ·
    rcases List.mem_cons.1 hp with rfl|hp
    · exact hy.fits' lZ
    · exact h1 p hp
  · simp only[List.map_cons,List.sum_cons,h2,jW,List.length_cons]
    omega
  ·
   rcases List.mem_cons.1 ht with rfl|ht
   · rw[hu.inj hx,hv.inj hy]
     simp
   · obtain⟨k1,k2⟩:=h3 t ht u v hu hv
     exact⟨List.mem_cons_of_mem _ (List.mem_cons_of_mem _ k1),List.mem_cons_of_mem _ (List.mem_cons_of_mem _ k2)⟩
open Go.RowKit
theorem Qnm{l:List (Rat × Nat)}{p:Rat × Nat}(h:p∈ l):p.2<=(l.map (·.2)).sum:=by
 induction l with
 |nil=>simp at h
 |cons a l ih=>
  rw[List.map_cons,List.sum_cons];rcases List.mem_cons.1 h with rfl|h
  · omega
  · have:=ih h;omega
theorem Qey{l:List (Rat × Nat)}{T:Nat}(h:∀p,p∈ l->Fits p.1 p.2)(hs:(l.map (·.2)).sum<=T):∃P,0<P/\P<=2 ^ T/\∀p,p∈ l->Wh P (2*T) p.1:=
 ⟨denP (l.map (·.1)),Qhp _,Nat.le_trans (Qe1 l h) (Nat.pow_le_pow_right (by decide) hs),fun p hp=>(Wh.of_mem (List.mem_map_of_mem hp) (h p hp) (Qe1 l h)).mono (by have:=Qnm hp;omega)⟩
theorem Qnn{n m T1 T2 E:Nat}{q xv yv:Vec}{A B:Nat->Nat}{lq lx:List (Rat × Nat)}(hn:n<=10)(hm:m<=24)(hq:∀k,k<m->∃p,p∈ lq/\p.1=q k)(hx:∀i,i<n->(∃p,p∈ lx/\p.1=xv i)/\∃p,p∈ lx/\p.1=yv i)(fq:∀p,p∈ lq->Fits p.1 p.2)(fx:∀p,p∈ lx->Fits p.1 p.2)(sq:(lq.map (·.2)).sum<=T1)(sx:(lx.map (·.2)).sum<=T2)(hT:2*(T1+T2)+10<=E):
 ∃P,0<P/\P<=2 ^ E/\(∀i c,i<n->c<n->Wh P E (Cab.barM m q A B i c))/\∀(fr:Nat->Bool) (x ld:Vec),(x=cutV xv n∨x=cutV yv n)->(∀i,ld i=0)->∀i,i<(Giv.frs fr n).length->Wh P E (Cab.sumsV (Giv.frs fr n) n (Cab.barM m q A B) fr x ld i):=by
 obtain⟨P,p0,p1,pw⟩:=Qey fq sq;obtain⟨Q,q0,q1,qw⟩:=Qey fx sx;have hP2:P<=2 ^ (2*T1+5):=Nat.le_trans p1 (Nat.pow_le_pow_right (by decide) (by omega));have hQ2:Q<=2 ^ (2*T2):=Nat.le_trans q1 (Nat.pow_le_pow_right (by decide) (by omega));have hF:∀i c,Wh P (2*T1+5) (Cab.barM m q A B i c):=fun i c=>by
  obtain⟨z,e,hz⟩:=Cab.barM_wh (P:=P) (b:=2*T1) (q:=q) (A:=A) (B:=B) i c m (fun k hk=>by
   obtain⟨p,hp,e⟩:=hq k hk
   exact e ▸ pw p hp)
  refine⟨z,e,Nat.le_trans hz ?_⟩;rw[Nat.pow_add,Nat.mul_comm];exact Nat.mul_le_mul_left _ (by omega)
 have hcut:∀x,(x=cutV xv n∨x=cutV yv n)->∀i,i<n->Wh Q (2*T2) (x i):=fun x hxx i hi=>by
  rcases hxx with rfl|rfl
  ·
   obtain⟨p,hp,e⟩:=(hx i hi).1;unfold cutV;rw[if_pos hi];exact e ▸ qw p hp
  ·
   obtain⟨p,hp,e⟩:=(hx i hi).2;unfold cutV;rw[if_pos hi];exact e ▸ qw p hp
 refine⟨P*Q,Nat.mul_pos p0 q0,?_,fun i c _ _=>(Cab.Wh.over (hF i c) hQ2).mono (by omega),fun fr x ld hxx hld i hi=>(Cab.sums_wh hn rfl (fun i k _ _=>hF i k) (hcut x hxx) (fun i _=>by rw[hld];exact Wh.zero _ _) hP2 i hi).mono (by omega)⟩;refine Nat.le_trans (Nat.mul_le_mul p1 q1) ?_;rw[<-Nat.pow_add];exact Nat.pow_le_pow_right (by decide) (by omega)
theorem Qnu(p q:Rat):0<cmpQ p q↔q<p:=by
 have h1:=Qh8 p q;have h2:=Qoy p q;constructor
 ·
  intro h;have a1:¬p<q:=fun x=>by have:=h1.2 x;omega
  have a2:¬p=q:=fun x=>by have:=h2.2 x;omega
  grind
 ·
  intro h;have a1:¬cmpQ p q<0:=fun x=>by have:=h1.1 x;grind
  have a2:¬cmpQ p q=0:=fun x=>by have:=h2.1 x;grind
  omega
theorem SpsF.pla{n K:Nat}{X Y:Vec}{v:Value}{w:World}(h:SpsF n X Y v w)(hx:∀i,i<n->Fits (X i) K)(hy:∀i,i<n->Fits (Y i) K)(hk:2*(K / 3)+4<=1073741824):∃(sa:Option Addr) (ss:List S2),v=.slice sa n n/\ss.length=n/\ARow S2.cells w sa n ss/\PlaT ss X Y K:=by
 obtain⟨g,ss,rfl,hl,hs,ht⟩:=h;refine⟨some ⟨g,0,none⟩,ss,rfl,hl,⟨Nat.le_of_eq hl,hs.crow rfl⟩,fun i s hi=>?_⟩;have hin:i<n:=by have:=(gZ hi).1;omega
 obtain⟨h1,h2⟩:=ht i s hi;have f1:=hx i hin;have f2:=hy i hin;exact⟨h1.back,h2.back,Nat.le_trans (h1.lenG f1) hk,Nat.le_trans (h2.lenG f2) hk,f1,f2⟩
def ShOne(w:World)(n e:Nat)(F:Cab.Mx)(X LX:Vec)(hx:List Bool)(Y LY:Vec)(hy:List Bool)(sa:Option Addr)(sl sc:Nat):Prop:=
 sl=n/\sc=n/\∃(ss:List S2) (Z Z':Vec),ss.length=n/\ARow S2.cells w sa n ss/\PlaT ss Z Z' (kC e)/\LiesU n F (frB hx) X LX Z/\LiesU n F (frB hy) Y LY Z'
theorem ShSays.one{w w':World}{n e:Nat}{F:Cab.Mx}{X LX Y LY:Vec}{hx hy:List Bool}{en:Ending}(h:ShSays w n e F X LX hx Y LY hy en w')(hk:2*(kC e / 3)+4<=1073741824):
 ∃(sa:Option Addr) (sl sc:Nat) (c wy:Int),en=.returned (.tuple #[.slice sa sl sc,.agg #[.int .i64 c,.int .i64 wy]])/\(c=0->ShOne w' n e F X LX hx Y LY hy sa sl sc)/\Below w.heap.size w w':=by
 obtain⟨h,hb⟩:=h;rcases h with ⟨c,hc,rfl⟩|⟨c,hc,rfl⟩|⟨v,Z,Z',rfl,hs,h1,f1,h2,f2⟩
 · exact⟨none,0,0,c,0,rfl,fun h0=>by omega,hb⟩
 · exact⟨none,0,0,c,1,rfl,fun h0=>by omega,hb⟩
 · obtain⟨sa,ss,rfl,hl,hr,hp⟩:=hs.pla f1 f2 hk
   exact⟨sa,n,n,0,0,rfl,fun _=>⟨rfl,rfl,ss,Z,Z',hl,hr,hp,h1,h2⟩,hb⟩
theorem Qhj:∀qs:List ByteArray,∃l:List (Rat × Nat),(∀p,p∈ l->Fits p.1 p.2)/\(l.map (·.2)).sum=4*(qs.map (·.size)).sum+qs.length/\∀s,s∈ qs->∀x,QOf s.data.toList x->x∈ l.map (·.1)
 | []=>⟨[],(fun p hp=>by cases hp),rfl,(fun s hs=>by cases hs)⟩
 |s :: qs=>by
  obtain⟨l,h1,h2,h3⟩:=Qhj qs;obtain⟨x,hx⟩:=QOf.ex s.data.toList;refine⟨(x,4*s.size+1) :: l,fun p hp=>?_,?_,fun t ht u hu=>?_⟩
  ·
   rcases List.mem_cons.1 hp with rfl|hp
   · exact hx.fits' lZ
   · exact h1 p hp
  · simp only[List.map_cons,List.sum_cons,h2,List.length_cons]
    omega
  ·
   rcases List.mem_cons.1 ht with rfl|ht
   · rw[hu.inj hx]
     simp
   · exact List.mem_cons_of_mem _ (h3 t ht u hu)
theorem Qez{l:List (Rat × Nat)}{x:Rat}(h:x∈ l.map (·.1)):∃p,p∈ l/\p.1=x:=by
 obtain⟨p,hp,e⟩:=List.mem_map.1 h;exact⟨p,hp,e⟩
theorem Qhk{js:List S2}{bs:List B6}{hs:List H3}{qs:List ByteArray}{xv yv q:Vec}{A B hj hw:Nat->Nat}{n e:Nat}(hv:CabV js bs hs xv yv A B hj hw)(hqt:QsT qs q)(hql:qs.length=bs.length)(hs:(qs.map (·.size)).sum+jW js<=1048576)(hn:js.length=n)(he:8400000<=e):
 (∃P,0<P/\P<=2 ^ e/\(∀i c,i<n->c<n->Wh P e (Cab.barM bs.length q A B i c))/\∀(fr:Nat->Bool) (x ld:Vec),(x=cutV xv n∨x=cutV yv n)->(∀i,ld i=0)->∀i,i<(Giv.frs fr n).length->Wh P e (Cab.sumsV (Giv.frs fr n) n (Cab.barM bs.length q A B) fr x ld i))/\
 ∃P,0<P/\P<=2 ^ e/\∀k,k<bs.length->Wh P e (q k):=by
 obtain⟨lq,fq,sq,mq⟩:=Qhj qs;obtain⟨lx,fx,sx,mx⟩:=Qim js;have n1:=hv.n1;have n2:=hv.n2;have hq:∀k,k<bs.length->∃p,p∈ lq/\p.1=q k:=fun k hk=>by
  obtain⟨s,hs⟩:∃s,qs[k]?=some s:=⟨qs[k]'(by omega),gE _⟩;exact Qez (mq s (mO hs) _ (hqt k s hs).1)
 have hx:∀i,i<n->(∃p,p∈ lx/\p.1=xv i)/\∃p,p∈ lx/\p.1=yv i:=fun i hi=>by
  obtain⟨s,hs⟩:∃s,js[i]?=some s:=⟨js[i]'(by omega),gE _⟩;have h:=hv.s i s hs;obtain⟨k1,k2⟩:=mx s (mO hs) _ _ h.1 h.2.1;exact⟨Qez k1,Qez k2⟩
 refine⟨Qnn (T1:=(lq.map (·.2)).sum) (T2:=(lx.map (·.2)).sum) (by omega) n2 hq hx fq fx lZ lZ (by rw[sq,sx];omega),?_⟩;obtain⟨P,p0,p1,pw⟩:=Qey fq lZ;refine⟨P,p0,Nat.le_trans p1 (Nat.pow_le_pow_right (by decide) (by rw[sq];omega)),fun k hk=>?_⟩;obtain⟨p,hp,e⟩:=hq k hk;exact e ▸ (pw p hp).mono (by rw[sq];omega)
theorem CabV.pla{js:List S2}{bs:List B6}{hs:List H3}{xv yv:Vec}{A B hj hw:Nat->Nat}(hv:CabV js bs hs xv yv A B hj hw):PlaT js xv yv 4194305:=fun k s hk=>by
 obtain⟨h1,h2,h3,h4⟩:=hv.s k s hk;exact⟨h1,h2,by omega,by omega,(h1.fits' h3).mono (by decide),(h2.fits' h4).mono (by decide)⟩
theorem CabV.cutFits{js:List S2}{bs:List B6}{hs:List H3}{xv yv:Vec}{A B hj hw:Nat->Nat}{J:Nat}(hv:CabV js bs hs xv yv A B hj hw)(hJ:4194305<=J):(∀i,i<js.length->Fits (cutV xv js.length i) J)/\∀i,i<js.length->Fits (cutV yv js.length i) J:=by
 refine⟨fun i hi=>?_,fun i hi=>?_⟩<;>
 ·
  have h:=hv.pla i js[i] (gE hi);unfold cutV;rw[if_pos hi]
  first|exact h.2.2.2.2.1.mono hJ|exact h.2.2.2.2.2.mono hJ
theorem Qnv{ss:List S2}{Z Z' X Y LX:Vec}{J n m k:Nat}{F:Cab.Mx}{hj hw:Nat->Nat}(hk:k<2)(hp:PlaT ss Z Z' J)(h1:LiesU n F (frB (hdK n hj hw 0 m)) X LX Z)(h2:LiesU n F (frB (hdK n hj hw 1 m)) Y LX Z'):
 ∃Zk Xk,(∀(i:Nat) (s:S2),ss[i]?=some s->∃tx:ByteArray,((k=0/\tx=s.x)∨(k=1/\tx=s.y))/\QOf tx.data.toList (Zk i)/\tx.size<=1073741824/\Fits (Zk i) J)/\LiesU n F (frB (hdK n hj hw k m)) Xk LX Zk:=by
 by_cases e:k=0
 · subst e
   exact⟨Z,X,fun i s hs=>⟨s.x,.inl ⟨rfl,rfl⟩,(hp i s hs).1,(hp i s hs).2.2.1,(hp i s hs).2.2.2.2.1⟩,h1⟩
 · obtain rfl:k=1:=by omega
   exact⟨Z',Y,fun i s hs=>⟨s.y,.inr ⟨rfl,rfl⟩,(hp i s hs).2.1,(hp i s hs).2.2.2.1,(hp i s hs).2.2.2.2.2⟩,h2⟩
theorem Qnw{n i m way:Nat}{hj hw:Nat->Nat}(hi:i<n)(h:∀k,k<m->¬(hj k=i/\hw k=way)):frB (hdK n hj hw way m) i=true:=by
 have e:(hdK n hj hw way m)[i]?=some false:=by
  unfold hdK;rw[List.getElem?_map,List.getElem?_range hi];simp only[Option.map_some,Option.some.injEq];rw[List.any_eq_false];intro k hk;have:=h k (List.mem_range.1 hk);simp only[Bool.and_eq_true,beq_iff_eq,not_and];exact fun a b=>this ⟨b,a⟩
 rw[Qgz e];rfl
def Beyond(A B:Nat->Nat)(Z:Vec)(i:Nat)(s:Rat)(m:Nat):Prop:=∀k,k<m->A k=i∨B k=i->0<(Z (A k+B k - i) - Z i)*s
def heldK(hj hw:Nat->Nat)(i k j:Nat):Bool:=(List.range j).any fun t=>hj t == i && hw t == k
theorem Qc9(hj hw:Nat->Nat)(i k j:Nat):heldK hj hw i k (j+1)=(heldK hj hw i k j || (hj j == i && hw j == k)):=by
 unfold heldK;rw[List.range_succ,List.any_append];simp
theorem Qhl{hj hw:Nat->Nat}{i k j:Nat}(h:heldK hj hw i k j=false):∀t,t<j->¬(hj t=i/\hw t=k):=fun t ht=>by
 unfold heldK at h;rw[List.any_eq_false] at h;have:=h t (List.mem_range.2 ht)
 simpa using this
def sideK(A B:Nat->Nat)(Z:Vec)(i:Nat)(s:Rat)(j:Nat):Bool:=(List.range j).all fun t=>!(A t == i || B t == i) || decide (0<(Z (A t+B t - i) - Z i)*s)
theorem Qe0(A B:Nat->Nat)(Z:Vec)(i:Nat)(s:Rat)(j:Nat):sideK A B Z i s (j+1)=(sideK A B Z i s j && (!(A j == i || B j == i) || decide (0<(Z (A j+B j - i) - Z i)*s))):=by
 unfold sideK;rw[List.range_succ,List.all_append];simp
theorem Qhm{A B:Nat->Nat}{Z:Vec}{i j:Nat}{s:Rat}(h1:A j≠i)(h2:B j≠i):sideK A B Z i s (j+1)=sideK A B Z i s j:=by
 rw[Qe0];simp[h1,h2]
theorem Qbb{A B:Nat->Nat}{Z:Vec}{i j:Nat}(h:A j=i∨B j=i):sideK A B Z i 1 (j+1)=(sideK A B Z i 1 j && decide (0<cmpQ (Z (A j+B j - i)) (Z i))):=by
 rw[Qe0];have e:(A j == i || B j == i)=true:=by simpa using h
 rw[e,decide_eq_decide.2 (show 0<(Z (A j+B j - i) - Z i)*1↔0<cmpQ (Z (A j+B j - i)) (Z i) from by rw[Qnu];grind)];rfl
theorem Qbc{A B:Nat->Nat}{Z:Vec}{i j:Nat}(h:A j=i∨B j=i):sideK A B Z i (-1) (j+1)=(sideK A B Z i (-1) j && decide (cmpQ (Z (A j+B j - i)) (Z i)<0)):=by
 rw[Qe0];have e:(A j == i || B j == i)=true:=by simpa using h
 rw[e,decide_eq_decide.2 (show 0<(Z (A j+B j - i) - Z i)*(-1)↔cmpQ (Z (A j+B j - i)) (Z i)<0 from by rw[Qh8];grind)];rfl
theorem Qnx{A B:Nat->Nat}{Z:Vec}{i j:Nat}{s:Rat}(h:sideK A B Z i s j=true):Beyond A B Z i s j:=fun t ht hab=>by
 unfold sideK at h;rw[List.all_eq_true] at h;have:=h t (List.mem_range.2 ht);have e:(A t == i || B t == i)=true:=by simpa using hab
 rw[e] at this
 simpa using this
theorem Qhn{js:List S2}{bs:List B6}{hs:List H3}{xv yv q x ld Z:Vec}{A B hj hw:Nat->Nat}{way i:Nat}{s:Rat}(hv:CabV js bs hs xv yv A B hj hw)(hq:∀k,k<bs.length->0<q k)(hu:LiesU js.length (Cab.barM bs.length q A B) (frB (hdK js.length hj hw way hs.length)) x ld Z)(hi:i<js.length)(hl:∀i,ld i=0)(hh:∀k,k<hs.length->¬(hj k=i/\hw k=way))(hs:s=1∨s= -1):sideK A B Z i s bs.length=false:=Bool.eq_false_iff.2 fun hbb=>by
 have hb:=Qnx hbb;have he:∀k,k<bs.length->A k≠B k:=fun k hk=>(hv.e k bs[k] (gE hk)).2.2.2.2
 obtain⟨k,hk,hab,hn⟩:=Qnk hq he (Qby hv) hu hi (Qnw hi hh) (hl i) s hs;exact hn (hb k hk hab)
end Go.Proofs.YtfpcipgoedifaaaGreatDoor
