/- num's Q and Equal. -/
import Derived.Test.YtbbkamnfjejceaaGreatDoorR23TextQ
import Derived.Test.YtbbkamnfjejceaaGreatDoorR20FracC
namespace Go.Proofs.YtbbkamnfjejceaaGreatDoor
open Go.RowKit
set_option linter.unusedVariables false
set_option linter.unusedSimpArgs false
def Pw(w:World)(g n:Nat):Prop:=∀i,i<n→∃a c l,w.cell? ⟨g,i,none⟩=some (.slice a (List.length l) c)∧U64 w a c l (pw i)
theorem Pw.below{w w':World}{g n:Nat}(h:Pw w g n)(hb:Below w.heap.size w w'):Pw w' g n:=fun i hi=>by
 obtain⟨a,c,l,h1,h2⟩:=h i hi;exact⟨a,c,l,(hb.cell (p:=⟨g,i,none⟩) (World.block_lt_of_cell? _ _ h1)).trans h1,h2.below hb⟩
theorem Pw.wrote{B b:Nat}{l:List UInt8}{w w':World}{g n:Nat}(h:Pw w g n)(hd:Bd8 B b l w)(k:Wr b w w'):Pw w' g n:=fun i hi=>by
 obtain⟨a,c,ws,h1,h2⟩:=h i hi;obtain⟨a0,c0,l0,h10,_⟩:=h 0 (by omega);obtain⟨g1,g2⟩:=hd.slice_apart h10;exact⟨a,c,ws,(World.cell?_of_block (w:=w) (a:=⟨g,i,none⟩) (k.block g (World.block_lt_of_cell? _ _ h10) g1 g2)).trans h1,h2.wrote hd k⟩
theorem Pw.less{w:World}{g n m:Nat}(h:Pw w g n)(hm:m≤n):Pw w g m:=fun i hi=>h i (by omega)
theorem Qrv{w:World}{a:Option Addr}{c x:Nat}{l:List Nat}(h:U64 w a c l x)(hx:x<10000000000000000000):l.getD 0 0=x:=by
 have hl:l.length≤1:=h.num.length_le_of_lt (by decide) (by rw[Nat.pow_one];omega);rw[←h.num.eq]
 match l,hl with
 | [],_=>rfl
 | [d],_=>simp[val]
set_option maxHeartbeats 2000000 in
set_option maxRecDepth 100000 in
theorem Qrw(w0:World)(b g:Nat)(hT:Tab w0)(n:Nat):∀(cap:Nat) (fill:Bool) (l:List UInt8) (a:Option Addr) (c x:Nat) (ws:List Nat) (w:World),Below w0.heap.size w0 w→Bd8 w0.heap.size b l w→U64 w a c ws x→Pw w g n→n≤cap→x<pw n→ws.length≤274877906944→n≤1099511627776→l.length+19*2 ^ n≤140737488355328→
 Calls Tryz.prog 155 #[.pointer (some ⟨b,0,none⟩),.slice a ws.length c,.slice (some ⟨g,0,none⟩) n cap,.bool fill] w (Digs w0.heap.size b l fill (19*2 ^ n) x w):=by
 induction n with
 |zero=>
  intro cap fill l a c x ws w hb hd hu hp hnc hx hwl hn hl;rw[Qji] at hx;have HWD:=Hi (Qbl a c ws 0 w hu.row hu.short (by decide));rw[Qrv hu hx] at HWD;have HWC:=Hi (Qru w0 w b l x fill hT hb hd hx (by simpa using hl));clear hb hd hu hp;go_enter Tryz.func155,Tryz.ntmps155;go_wp2_with fail;go_fit HWD.out;rintro e w1 ⟨rfl,hw⟩;subst hw;clear HWD;go_wp2_with fail;go_fit HWC.out;rintro e w2 ⟨m,ho,rfl,hd2,hb2,hw2⟩;have HO:=Hi ho;have HD2:=Hi hd2;have HB2:=Hi hb2;have HW2:=Hi hw2;clear HWC ho hd2 hb2 hw2;go_wp2;go_end0;exact⟨m,by simpa using HO.out,rfl,HD2.out,HB2.out,HW2.out⟩
 |succ n ih=>
  intro cap fill l a c x ws w hb hd hu hp hnc hx hwl hn hl;obtain⟨ap,cp,lp,hcell,hup⟩:=hp n (by omega);have HDV:=Hi (Qht a ap c cp ws lp x (pw n) w hu hup (Qfx n) (by omega));have HB:=Hi hb;have HD:=Hi hd;have HP:=Hi hp;have HIH:=Hi ih;have hq1:x / pw n<pw n:=by rw[Nat.div_lt_iff_lt_mul (Qfx n)];rw[Qd2] at hx;exact hx
  have hq2:x % pw n<pw n:=Nat.mod_lt _ (Qfx n);have hlen:∀(w':World) (a':Option Addr) (c' y:Nat) (l':List Nat),U64 w' a' c' l' y→y≤x→l'.length≤ws.length:=fun w' a' c' y l' h' hy=>h'.num.length_le_of_lt (by decide) (Nat.lt_of_le_of_lt hy (by have:=Qaa (B:=18446744073709551616) (by decide) hu.num.small;rw[hu.num.eq] at this;exact this))
  have HLEN:=Hi hlen;have HX:=Hi (Nat.div_add_mod x (pw n));have h2:19*2 ^ (n+1)=2*(19*2 ^ n):=by rw[Nat.pow_succ];omega
  have HPE:=Hi (show pw n=10 ^ (19*2 ^ n) from rfl);have n1:((n+1:Nat):Int) - 1=(n:Int):=by omega
  have n2:((n:Int)+1) - 1=(n:Int):=by omega
  have n0:(((n+1:Nat):Int) == 0)=false:=by rw[beq_eq_false_iff_ne];omega
  have hsz:w0.heap.size≤w.heap.size:=hb.size;clear hb hd hu hp hup ih hlen;go_enter Tryz.func155,Tryz.ntmps155;go_wp2_with fail;go_fit HDV.out;rintro e w1 ⟨⟨aq,cq,lq,ar,cr,lr,rfl,hq,hr⟩,hb1⟩;have hz:=hq.num.len_zero (by decide);have HL1:=Hi (HLEN.out _ _ _ _ _ hq (Nat.div_le_self _ _));have HL2:=Hi (HLEN.out _ _ _ _ _ hr (Nat.mod_le _ _));have HQ:=Hi hq;have HR:=Hi hr;have HB1:=Hi hb1;have HD1:=Hi (HD.out.below hb1);have HP1:=Hi (HP.out.below hb1);have HW1:=Hi (Wr.below HD.out.lt hb1);have HBB:=Hi (HB.out.trans (hb1.mono hsz));have hsz1:=hb1.size;clear HDV hq hr hb1;cases fill with
  |true=>
   have HC1:=Hi (HIH.out cap true l aq cq (x / pw n) lq w1 HBB.out HD1.out HQ.out (HP1.out.less (by omega)) (by omega) hq1 (by have:=HL1.out;omega) (by omega) (by omega));clear hz;go_wp2_with fail;go_fit HC1.out;rintro e w2 ⟨m1,ho1,rfl,hd2,hb2,hw2⟩;have HO1:=Hi ho1;have HC2:=Hi (HIH.out cap true (l++m1) ar cr (x % pw n) lr w2 (HBB.out.trans hb2) hd2 (HR.out.wrote HD1.out hw2) ((HP1.out.wrote HD1.out hw2).less (by omega)) (by omega) hq2 (by have:=HL2.out;omega) (by omega) (by rw[List.length_append];have:=ho1.most;omega));have HB2:=Hi hb2;have HW2:=Hi hw2;clear HC1 ho1 hd2 hb2 hw2;go_wp2_with fail;go_fit HC2.out;rintro e w3 ⟨m2,ho2,rfl,hd3,hb3,hw3⟩;have HO2:=Hi ho2;have HD3:=Hi hd3;have HB3:=Hi hb3;have HW3:=Hi hw3;clear HC2 ho2 hd3 hb3 hw3;go_wp2;go_end0;have ho:=Qjh HO1.out HO2.out (.inl rfl);rw[←HPE.out,Nat.mul_comm (x / pw n),HX.out,←h2] at ho
   exact⟨m1++m2,ho,rfl,by rw[←List.append_assoc];exact HD3.out,(HB1.out.mono hsz).trans (HB2.out.trans HB3.out),HW1.out.trans (HW2.out.trans HW3.out)⟩
  |false=>
   by_cases hlq:0<lq.length
   ·
    have q1:((0:Int)<(lq.length:Int)):=by omega
    have HF:Hid (0<x / pw n):=Hi (by
     rcases Nat.eq_zero_or_pos (x / pw n) with h|h
     · have:=hz.1 h;omega
     · exact h)
    have HC1:=Hi (HIH.out cap false l aq cq (x / pw n) lq w1 HBB.out HD1.out HQ.out (HP1.out.less (by omega)) (by omega) hq1 (by have:=HL1.out;omega) (by omega) (by omega));clear hz;go_wp2_with fail;go_fit HC1.out;rintro e w2 ⟨m1,ho1,rfl,hd2,hb2,hw2⟩;have HO1:=Hi ho1;have HC2:=Hi (HIH.out cap true (l++m1) ar cr (x % pw n) lr w2 (HBB.out.trans hb2) hd2 (HR.out.wrote HD1.out hw2) ((HP1.out.wrote HD1.out hw2).less (by omega)) (by omega) hq2 (by have:=HL2.out;omega) (by omega) (by rw[List.length_append];have:=ho1.most;omega));have HB2:=Hi hb2;have HW2:=Hi hw2;clear HC1 ho1 hd2 hb2 hw2;go_wp2_with fail;go_fit HC2.out;rintro e w3 ⟨m2,ho2,rfl,hd3,hb3,hw3⟩;have HO2:=Hi ho2;have HD3:=Hi hd3;have HB3:=Hi hb3;have HW3:=Hi hw3;clear HC2 ho2 hd3 hb3 hw3;go_wp2;go_end0;have ho:=Qjh HO1.out HO2.out (.inr HF.out);rw[←HPE.out,Nat.mul_comm (x / pw n),HX.out,←h2] at ho
    exact⟨m1++m2,ho,rfl,by rw[←List.append_assoc];exact HD3.out,(HB1.out.mono hsz).trans (HB2.out.trans HB3.out),HW1.out.trans (HW2.out.trans HW3.out)⟩
   ·
    have q1:¬((0:Int)<(lq.length:Int)):=by omega
    have hx0:x % pw n=x:=by
     have h1:=HX.out;rw[hz.2 (by omega),Nat.mul_zero,Nat.zero_add] at h1;exact h1
    have HC2:=Hi (HIH.out cap false l ar cr (x % pw n) lr w1 HBB.out HD1.out HR.out (HP1.out.less (by omega)) (by omega) hq2 (by have:=HL2.out;omega) (by omega) (by omega));clear hz;go_wp2_with fail;go_fit HC2.out;rintro e w3 ⟨m2,ho2,rfl,hd3,hb3,hw3⟩;have HO2:=Hi ho2;have HD3:=Hi hd3;have HB3:=Hi hb3;have HW3:=Hi hw3;clear HC2 ho2 hd3 hb3 hw3;go_wp2;go_end0;have ho:=HO2.out;rw[hx0] at ho;exact⟨m2,ho.grow (by omega),rfl,HD3.out,(HB1.out.mono hsz).trans HB3.out,HW1.out.trans HW3.out⟩
def TextAns(x:Nat)(w:World)(e:Ending)(w':World):Prop:=(∃s:ByteArray,e=.returned (.string s)∧IsDec s.data.toList x∧s.size≤140737488355328)∧Below w.heap.size w w'
set_option maxHeartbeats 2000000 in
set_option maxRecDepth 100000 in
theorem Qrx(a:Option Addr)(c x:Nat)(ws:List Nat)(w:World)(hT:Tab w)(h:U64 w a c ws x)(hl:ws.length≤274877906944):
 Calls Tryz.prog 86 #[.slice a ws.length c] w (TextAns x w):=by
 obtain⟨wA,hwA⟩:∃wA,w.alloc (.cells #[.pointer none,.slice none 0 0] 210)=wA:=⟨_,rfl⟩;have hbA:Below w.heap.size w wA:=by rw[←hwA];exact(Below.refl _ _).alloc (Nat.le_refl _) _
 have hsA:wA.heap[w.heap.size]?=some (.cells #[.pointer none,.slice none 0 0] 210 (0,0)):=by rw[←hwA];exact heap_alloc_new w _
 have hdA:Bd8 w.heap.size w.heap.size [] wA:=⟨.inl ⟨Nat.le_refl _,.slice none 0 0,hsA,World.ownsRow_nil _ _ _ _,by simp[Value.ownBlock]⟩,fun v hv=>by
  rw[Lib.cell_of_heap hsA] at hv;have:v=.slice none 0 0:=by simpa using hv.symm
  subst this;intro g hg
  simp[Value.ownBlock] at hg⟩
 have HPO:=Hi (Qr8 a c x ws wA (h.below hbA) hl);have HU:=Hi (h.below hbA);have HD:=Hi hdA;have HBA:=Hi hbA;have HWA:=Hi hwA;have HT:=Hi hT;have hsz:=hbA.size;clear hT h hbA hsA hdA hwA;go_enter Tryz.func86,Tryz.ntmps86;go_wp2_with fail;rw[HWA.out];go_fit HPO.out;rintro e w1 ⟨⟨g,n,cap,rfl,hnc,⟨vs,hvl,hvs,hpows⟩,hgl,hx,hnb,hroom⟩,hb1⟩;have hPw:Pw w1 g (n+1):=fun i hi=>by
  obtain⟨v,hv⟩:∃v,vs[i]?=some v:=⟨vs[i]'(by omega),List.getElem?_eq_getElem (by omega)⟩;obtain⟨a',c',l',e',hu'⟩:=hpows i v hv;exact⟨a',c',l',by rw[hvs i v hv,e'],hu'⟩
 have HWD:=Hi (Qrw w w.heap.size g HT.out (n+1) cap false [] a c x ws w1 (HBA.out.trans (hb1.mono hsz)) (HD.out.below hb1) (HU.out.below hb1) hPw hnc hx hl (by omega) (by rw[List.length_nil];omega));have HB1:=Hi (HBA.out.trans (hb1.mono hsz));have hsz1:=hb1.size;clear HPO hPw hvl hvs hpows hgl hx hb1;go_wp2_with fail;go_fit HWD.out;rintro e w2 ⟨m,ho,rfl,hd2,hb2,hw2⟩;have HBS:=Hi (Qrr w.heap.size w.heap.size m w2 (by have:=hd2.bd;rwa [List.nil_append] at this) (by have:=hw2.size;omega));have HDE:=Hi ho.dec;have HML:=Hi ho.most;have HB2:=Hi (HB1.out.trans hb2);clear HWD ho hd2 hb2 hw2;go_wp2_with fail;go_fit HBS.out;rintro e w3 ⟨rfl,hb3⟩;have HB3:=Hi (HB2.out.trans hb3);clear HBS hb3;go_wp2;go_ret;refine⟨⟨_,rfl,HDE.out,?_⟩,HB3.out⟩;have h1:=HML.out;rw[←Qad]
 show m.length≤_
 omega
def QAns(q:Rat)(w:World)(e:Ending)(w':World):Prop:=(∃s:ByteArray,e=.returned (.string s)∧QText s.data.toList q)∧Below w.heap.size w w'
theorem Qce(s t:ByteArray):(s++t).data.toList=s.data.toList++t.data.toList:=by simp[ByteArray.data_append]
theorem Ql0(w:World)(d:Nat)(a:Option Addr)(n c:Nat):(Op.equalIn (d+1) 75 (.slice a n c) (.slice none 0 0)).run Tryz.prog w=.ok a.isNone w:=by
 cases a<;>simp[Op.equalIn,run_underlying Tryz.underlying75]
theorem Ql1(w:World)(a:Option Addr)(n c:Nat):(Op.equal 75 (.slice a n c) (.slice none 0 0)).run Tryz.prog w=.ok a.isNone w:=Ql0 w 9999 a n c
theorem Ql2(w:World)(a:Option Addr)(n c:Nat):(binOp .neq 75 (.slice a n c) (.slice none 0 0)).run Tryz.prog w=.ok (.bool a.isSome) w:=by
 cases a<;>simp[binOp,Ql1]
theorem Qes{a:Option Addr}{n c x K:Nat}{w:World}(hT:Tab w)(h:NumV w a n c x)(hx:x<2 ^ K)(hK:K≤274877906944):Calls Tryz.prog 86 #[.slice a n c] w (TextAns x w):=by
 obtain⟨l,rfl,h⟩:=h;exact Qrx a c x l w hT h (Nat.le_trans (h.len_bits hx) hK)
set_option maxHeartbeats 2000000 in
set_option maxRecDepth 100000 in
theorem num_Q(neg:Bool)(a b:Option Addr)(n c m d K:Nat)(q:Rat)(w:World)(hT:Tab w)(h:FracAt w neg a n c b m d q)(hf:Fits q K)(hK:K≤274877906944):
 Calls Tryz.prog 35 #[.agg #[.bool neg,.slice a n c,.slice b m d]] w (QAns q w):=by
 have hq:=Ql2;obtain⟨wA,hwA⟩:∃wA,w.alloc (.cells #[.bool neg,.slice a n c,.slice b m d] 77)=wA:=⟨_,rfl⟩;have hbA:Below w.heap.size w wA:=by rw[←hwA];exact(Below.refl _ _).alloc (Nat.le_refl _) _
 have hsb:SB wA w.heap.size 77 #[.bool neg,.slice a n c,.slice b m d]:=by rw[←hwA];exact SB.new w _ _
 have HT1:=Hi (Qes (hT.below hbA) (h.top.below hbA) hf.1 hK);have HLO:=Hi (h.low.below hbA);have HTA:=Hi (hT.below hbA);have HNG:=Hi h.neg;have HF:=Hi hf;have HSB:=Hi hsb;have HBA:=Hi hbA;have HWA:=Hi hwA;have hsz:=hbA.size;clear hT h hf hbA hsb hwA;go_enter Tryz.func35,Tryz.ntmps35;have k1:wA.cell? ⟨w.heap.size,1,none⟩=some (.slice a n c):=HSB.out.cell 1;go_wp2_with fail;rw[HWA.out];go_fit HT1.out;rintro e w1 ⟨⟨s1,rfl,hd1,hs1⟩,hb1⟩;have HD1:=Hi hd1;have HB1:=Hi (HBA.out.trans (hb1.mono hsz));have HL1:=Hi (HLO.out.below hb1);have HTB:=Hi (HTA.out.below hb1);have hsb1:=HSB.out.below hb1 HSB.out.lt;have g0:w1.cell? ⟨w.heap.size,0,none⟩=some (.bool neg):=hsb1.cell 0;have g2:w1.cell? ⟨w.heap.size,2,none⟩=some (.slice b m d):=hsb1.cell 2;have hsz1:=hb1.size;clear HT1 hd1 hb1 hsb1 k1 HLO HTA;cases neg with
 |true=>
  have HSI:Hid (IntText ((⟨#[45]⟩:ByteArray)++s1).data.toList q.num):=Hi ⟨s1.data.toList,HD1.out,by rw[if_pos (of_decide_eq_true HNG.out.symm),Qce];rfl⟩;rcases HL1.out with ⟨rfl,rfl,rfl,hden⟩|⟨hden,hl⟩
  ·
   go_wp2;go_ret;exact⟨⟨_,rfl,_,HSI.out,.inl ⟨hden,rfl⟩⟩,HB1.out⟩
  ·
   obtain⟨bb,bo,rfl⟩:=hl.some (by omega);have HT2:=Hi (Qes HTB.out hl HF.out.2 hK);clear hl;go_wp2_with fail;go_fit HT2.out;rintro e w2 ⟨⟨s2,rfl,hd2,hs2⟩,hb2⟩;have HD2:=Hi hd2;have HB2:=Hi (HB1.out.trans (hb2.mono HB1.out.size));clear HT2 hd2 hb2;go_wp2;go_ret;exact⟨⟨_,rfl,_,HSI.out,.inr ⟨by omega,_,HD2.out,by rw[Qce,Qce];rfl⟩⟩,HB2.out⟩
 |false=>
  have HSI:Hid (IntText s1.data.toList q.num):=Hi ⟨s1.data.toList,HD1.out,by rw[if_neg (of_decide_eq_false HNG.out.symm)]⟩;rcases HL1.out with ⟨rfl,rfl,rfl,hden⟩|⟨hden,hl⟩
  ·
   go_wp2;go_ret;exact⟨⟨_,rfl,_,HSI.out,.inl ⟨hden,rfl⟩⟩,HB1.out⟩
  ·
   obtain⟨bb,bo,rfl⟩:=hl.some (by omega);have HT2:=Hi (Qes HTB.out hl HF.out.2 hK);clear hl;go_wp2_with fail;go_fit HT2.out;rintro e w2 ⟨⟨s2,rfl,hd2,hs2⟩,hb2⟩;have HD2:=Hi hd2;have HB2:=Hi (HB1.out.trans (hb2.mono HB1.out.size));clear HT2 hd2 hb2;go_wp2;go_ret;exact⟨⟨_,rfl,_,HSI.out,.inr ⟨by omega,_,HD2.out,by rw[Qce,Qce];rfl⟩⟩,HB2.out⟩
theorem Ql3{v:Value}{K:Nat}{q:Rat}{w:World}(hT:Tab w)(h:FracV w v q)(hf:Fits q K)(hK:K≤274877906944):Calls Tryz.prog 35 #[v] w (QAns q w):=by
 obtain⟨neg,a,n,c,b,m,d,rfl,h⟩:=h;exact num_Q neg a b n c m d K q w hT h hf hK
set_option maxHeartbeats 1000000 in
set_option maxRecDepth 100000 in
theorem Qgw(a1 a2:Option Addr)(c1 c2:Nat)(l m:List Nat)(w:World)(h1:Row .u64 w a1 c1 l)(h2:Row .u64 w a2 c2 m)(hl:l.length≤1099511627776)(hm:m.length≤1099511627776):
 Calls Tryz.prog 93 #[.slice a1 l.length c1,.slice a2 m.length c2] w fun e w'=>e=.returned (.bool (decide (l=m)))∧Below w.heap.size w w':=by
 have H1:=Hi h1;have H2:=Hi h2;clear h1 h2;by_cases hlm:l.length=m.length
 ·
  have q1:((l.length:Int) != (m.length:Int))=false:=by simp[hlm]
  have q2:((l.length:Int) == (m.length:Int))=true:=by simp[hlm]
  go_enter Tryz.func93,Tryz.ntmps93;go_wp2;go_loopw [13] (fun iv wr=>∃k:Nat,k≤l.length∧iv=.int .i64 k∧l.take k=m.take k∧Below w.heap.size w wr) (fun iv _=>l.length - (intOf iv).toNat)
  case atStart=>exact⟨0,by omega,rfl,by simp,Below.refl _ _⟩
  case round=>
   obtain⟨k,hk,rfl,ht,hb⟩:=hrel;have HT:=Hi ht;have HB:=Hi hb;clear ht hb;by_cases hlt:k<l.length
   ·
    obtain⟨b1,o1,rfl,hb1,hc1⟩:=(H1.out.below HB.out).cell k hlt;obtain⟨b2,o2,rfl,hb2,hc2⟩:=(H2.out.below HB.out).cell k (by omega);obtain⟨x,hx⟩:∃x,l.getD k 0=x:=⟨_,rfl⟩;obtain⟨y,hy⟩:∃y,m.getD k 0=y:=⟨_,rfl⟩;rw[hx] at hc1;rw[hy] at hc2;have HXX:=Hi hx;have HYY:=Hi hy;have e1:l.take (k+1)=l.take k++ [x]:=by rw[List.take_succ_eq_append_getElem hlt,←hx,List.getD_eq_getElem?_getD,List.getElem?_eq_getElem hlt];rfl
    have e2:m.take (k+1)=m.take k++ [y]:=by rw[List.take_succ_eq_append_getElem (by omega),←hy,List.getD_eq_getElem?_getD,List.getElem?_eq_getElem (by omega)];rfl
    have HE1:=Hi e1;have HE2:=Hi e2;clear hx hy e1 e2;by_cases hxy:x=y
    ·
     subst hxy;have q3:((x:Int) == (x:Int))=true:=by simp
     go_wp2_with fail;go_region
     all_goals
      go_wp2;go_roundw
      case rel=>exact⟨k+1,by omega,by go_num,by rw[HE1.out,HE2.out,HT.out],HB.out.drew⟩
      case measure=>simp[intOf];omega
    ·
     have q3:((x:Int) == (y:Int))=false:=by rw[beq_eq_false_iff_ne];omega
     have q4:((x:Int) != (y:Int))=true:=by rw[bne_iff_ne];omega
     have HNE:Hid (decide (l=m)=false):=Hi (decide_eq_false (fun h=>by
      have h1:=HXX.out;rw[h,HYY.out] at h1
      exact hxy h1.symm))
     go_wp2_with fail;go_region
     all_goals
      go_wp2;go_ret;exact⟨by rw[HNE.out];rfl,HB.out.drew⟩
   ·
    have hk':k=l.length:=by omega
    subst hk';have HEQ:Hid (decide (l=m)=true):=Hi (decide_eq_true (by have:=HT.out;rwa [List.take_length,List.take_of_length_le (by omega)] at this));go_wp2;go_ret;exact⟨by rw[HEQ.out];rfl,HB.out⟩
 ·
  have q1:((l.length:Int) != (m.length:Int))=true:=by rw[bne_iff_ne];omega
  have q2:((l.length:Int) == (m.length:Int))=false:=by rw[beq_eq_false_iff_ne];omega
  have HNE:Hid (decide (l=m)=false):=Hi (decide_eq_false (fun h=>hlm (by rw[h])));go_enter Tryz.func93,Tryz.ntmps93;go_wp2;go_ret;exact⟨by rw[HNE.out];rfl,Below.refl _ _⟩
theorem Low.row{w:World}{b:Option Addr}{m d k:Nat}(h:Low w b m d k):∃L:List Nat,L.length=m∧Row .u64 w b d L∧L.length≤1099511627776∧((L= []∧k=1)∨(1<k∧Num 18446744073709551616 L k)):=by
 rcases h with ⟨rfl,rfl,rfl,rfl⟩|⟨h,l,hl,hu⟩
 · exact⟨[],rfl,Row.nil _ _,by simp,.inl ⟨rfl,rfl⟩⟩
 · exact⟨l,hl,hu.row,hu.short,.inr ⟨h,hu.num⟩⟩
theorem Qgx{L M:List Nat}{j k:Nat}(h1:(L= []∧j=1)∨(1<j∧Num 18446744073709551616 L j))(h2:(M= []∧k=1)∨(1<k∧Num 18446744073709551616 M k)):L=M↔j=k:=by
 rcases h1 with ⟨rfl,rfl⟩|⟨g1,n1⟩<;>rcases h2 with ⟨rfl,rfl⟩|⟨g2,n2⟩
 · simp
 ·
  constructor
  · rintro rfl;have:=n2.eq;simp[val] at this;omega
  · intro h;omega
 ·
  constructor
  · rintro rfl;have:=n1.eq;simp[val] at this;omega
  · intro h;omega
 ·
  constructor
  · rintro rfl;rw[←n1.eq,←n2.eq]
  · rintro rfl;exact n1.inj (by decide) n2
theorem Ql4(p q:Rat):p=q↔(decide (p.num<0)=decide (q.num<0)∧p.num.natAbs=q.num.natAbs∧p.den=q.den):=by
 constructor
 · rintro rfl;exact⟨rfl,rfl,rfl⟩
 ·
  rintro⟨h1,h2,h3⟩;refine Rat.ext ?_ h3;rw[←Qbi p.num,←Qbi q.num,h1,h2]
set_option maxHeartbeats 1000000 in
set_option maxRecDepth 100000 in
theorem Ql5(nx ny:Bool)(ax bx ay b2:Option Addr)(lx cx mx dx ly cy my dy:Nat)(p q:Rat)(w:World)(hx:FracAt w nx ax lx cx bx mx dx p)(hy:FracAt w ny ay ly cy b2 my dy q):
 Calls Tryz.prog 39 #[.agg #[.bool nx,.slice ax lx cx,.slice bx mx dx],.agg #[.bool ny,.slice ay ly cy,.slice b2 my dy]] w fun e w'=>e=.returned (.bool (decide (p=q)))∧Below w.heap.size w w':=by
 obtain⟨lX,rfl,hX⟩:=hx.top;obtain⟨lY,rfl,hY⟩:=hy.top;obtain⟨LX,rfl,hLX,hLXs,hLXk⟩:=hx.low.row;obtain⟨LY,rfl,hLY,hLYs,hLYk⟩:=hy.low.row;have hT:decide (lX=lY)=decide (p.num.natAbs=q.num.natAbs):=by
  by_cases h:p.num.natAbs=q.num.natAbs
  · rw[decide_eq_true h];rw[h] at hX;exact decide_eq_true (hX.num.inj (by decide) hY.num)
  · rw[decide_eq_false h];exact decide_eq_false (fun hc=>h (by rw[←hX.num.eq,←hY.num.eq,hc]))
 have hL:decide (LX=LY)=decide (p.den=q.den):=by
  by_cases h:p.den=q.den
  · rw[decide_eq_true h];exact decide_eq_true ((Qgx hLXk hLYk).2 h)
  · rw[decide_eq_false h];exact decide_eq_false (fun hc=>h ((Qgx hLXk hLYk).1 hc))
 have hpq:=Ql4 p q;rw[←hx.neg,←hy.neg] at hpq;obtain⟨wA,hwA⟩:∃wA,(w.alloc (.cells #[.bool nx,.slice ax lX.length cx,.slice bx LX.length dx] 77)).alloc (.cells #[.bool ny,.slice ay lY.length cy,.slice b2 LY.length dy] 77)=wA:=⟨_,rfl⟩;have hbA:Below w.heap.size w wA:=by rw[←hwA];exact Below.new2 w _ _
 have hsy:SB wA (w.heap.size+1) 77 #[.bool ny,.slice ay lY.length cy,.slice b2 LY.length dy]:=by rw[←hwA];exact SB.new2 w _ _ _ _
 have hsx:SB wA w.heap.size 77 #[.bool nx,.slice ax lX.length cx,.slice bx LX.length dx]:=by rw[←hwA];exact(SB.new w _ _).alloc _
 have HT1:=Hi (Qgw ax ay cx cy lX lY wA (hX.row.below hbA) (hY.row.below hbA) hX.short hY.short);have HT2:=Hi (fun w1 hb=>Qgw bx b2 dx dy LX LY w1 ((hLX.below hbA).below hb) ((hLY.below hbA).below hb) hLXs hLYs);rw[hT] at HT1;rw[hL] at HT2;have x0:wA.cell? ⟨w.heap.size,0,none⟩=some (.bool nx):=hsx.cell 0;have x1:wA.cell? ⟨w.heap.size,1,none⟩=some (.slice ax lX.length cx):=hsx.cell 1;have y0:wA.cell? ⟨w.heap.size+1,0,none⟩=some (.bool ny):=hsy.cell 0;have y1:wA.cell? ⟨w.heap.size+1,1,none⟩=some (.slice ay lY.length cy):=hsy.cell 1;have HSX:=Hi hsx;have HSY:=Hi hsy;have HBA:=Hi hbA;have HWA:=Hi hwA;have HPQ:=Hi hpq;have hsz:=hbA.size;clear hx hy hX hY hLX hLXs hLXk hLY hLYs hLYk hT hL hpq hbA hsx hsy hwA;by_cases hn:nx=ny
 ·
  subst hn;by_cases ht:p.num.natAbs=q.num.natAbs
  ·
   rw[decide_eq_true ht] at HT1;go_enter Tryz.func39,Tryz.ntmps39;go_wp2_with fail;rw[HWA.out];go_fit HT1.out;rintro e w1 ⟨rfl,hb1⟩;have HC2:=Hi (HT2.out w1 hb1);have hsx1:=HSX.out.below hb1 HSX.out.lt;have hsy1:=HSY.out.below hb1 HSY.out.lt;have x2:w1.cell? ⟨w.heap.size,2,none⟩=some (.slice bx LX.length dx):=hsx1.cell 2;have y2:w1.cell? ⟨w.heap.size+1,2,none⟩=some (.slice b2 LY.length dy):=hsy1.cell 2;have HB1:=Hi (HBA.out.trans (hb1.mono hsz));clear HT1 HT2 hb1 hsx1 hsy1;go_wp2_with fail;go_fit HC2.out;rintro e w2 ⟨rfl,hb2⟩;have HB2:=Hi (HB1.out.trans (hb2.mono HB1.out.size));clear HC2 hb2;go_wp2;go_ret;refine⟨?_,HB2.out⟩;by_cases hd:p.den=q.den
   · rw[decide_eq_true hd,decide_eq_true (HPQ.out.2 ⟨by trivial,ht,hd⟩)];rfl
   · rw[decide_eq_false hd,decide_eq_false (fun h=>hd (HPQ.out.1 h).2.2)];rfl
  ·
   rw[decide_eq_false ht] at HT1;have HNE:Hid (decide (p=q)=false):=Hi (decide_eq_false (fun h=>ht (HPQ.out.1 h).2.1));go_enter Tryz.func39,Tryz.ntmps39;go_wp2_with fail;rw[HWA.out];go_fit HT1.out;rintro e w1 ⟨rfl,hb1⟩;have HB1:=Hi (HBA.out.trans (hb1.mono hsz));clear HT1 HT2 hb1;go_wp2;go_ret;exact⟨by rw[HNE.out];rfl,HB1.out⟩
 ·
  have q0:(nx == ny)=false:=by simpa using hn
  have HNE:Hid (decide (p=q)=false):=Hi (decide_eq_false (fun h=>hn (HPQ.out.1 h).1));clear HT1 HT2;go_enter Tryz.func39,Tryz.ntmps39;go_wp2;go_ret;exact⟨by rw[HNE.out];rfl,by rw[HWA.out];exact HBA.out⟩
theorem Ql6{v1 v2:Value}{p q:Rat}{w:World}(hx:FracV w v1 p)(hy:FracV w v2 q):Calls Tryz.prog 39 #[v1,v2] w fun e w'=>e=.returned (.bool (decide (p=q)))∧Below w.heap.size w w':=by
 obtain⟨nx,ax,lx,cx,bx,mx,dx,rfl,hx⟩:=hx;obtain⟨ny,ay,ly,cy,b2,my,dy,rfl,hy⟩:=hy;exact Ql5 nx ny ax bx ay b2 lx cx mx dx ly cy my dy p q w hx hy
end Go.Proofs.YtbbkamnfjejceaaGreatDoor
