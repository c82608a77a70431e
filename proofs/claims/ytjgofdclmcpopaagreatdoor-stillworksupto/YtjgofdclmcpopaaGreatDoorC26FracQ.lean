import Derived.Test.YtjgofdclmcpopaaGreatDoorC25TextQ
import Derived.Test.YtjgofdclmcpopaaGreatDoorC22FracC
namespace Go.Proofs.YtjgofdclmcpopaaGreatDoor
open Go.RowKit
open Go.Proofs.Tryz
set_option linter.unusedSimpArgs false
set_option linter.unusedVariables false
set_option maxHeartbeats 8000000
set_option maxRecDepth 1000000
def Pw(w:World)(g n:Nat):Prop:=∀i,i<n->∃a c l,w.cell? ⟨g,i,none⟩=some (.slice a (List.length l) c)/\U64 w a c l (pw i)
theorem Pw.below{w w':World}{g n:Nat}(h:Pw w g n)(hb:Below w.heap.size w w'):Pw w' g n:=fun i hi=>by
 obtain⟨a,c,l,h1,h2⟩:=h i hi;exact⟨a,c,l,ce hb (World.block_lt_of_cell? _ _ h1) h1,h2.below hb⟩
theorem Pw.wrote{B b:Nat}{l:List UInt8}{w w':World}{g n:Nat}(h:Pw w g n)(hd:Bd8 B b l w)(k:Wr b w w'):Pw w' g n:=fun i hi=>by
 obtain⟨a,c,ws,h1,h2⟩:=h i hi;obtain⟨a0,c0,l0,h10,_⟩:=h 0 (by omega);obtain⟨g1,g2⟩:=hd.slice_apart h10;exact⟨a,c,ws,(World.cell?_of_block (w:=w) (a:=⟨g,i,none⟩) (k.block g (World.block_lt_of_cell? _ _ h10) g1 g2)).trans h1,h2.wrote hd k⟩
theorem Pw.less{w:World}{g n m:Nat}(h:Pw w g n)(hm:m<=n):Pw w g m:=fun i hi=>h i (by omega)
theorem Qus{w:World}{a:Option Addr}{c x:Nat}{l:List Nat}(h:U64 w a c l x)(hx:x<10000000000000000000):l.getD 0 0=x:=by
 have hl:l.length<=1:=h.num.length_le_of_lt (by decide) (by rw[Nat.pow_one];omega);rw[<-h.num.eq]
 match l,hl with
 | [],_=>rfl
 | [d],_=>simp[val]
theorem Qut(w0:World)(b g:Nat)(hT:Tab w0)(n:Nat):∀(cap:Nat) (fill:Bool) (l:List UInt8) (a:Option Addr) (c x:Nat) (ws:List Nat) (w:World),Below w0.heap.size w0 w->Bd8 w0.heap.size b l w->U64 w a c ws x->Pw w g n->n<=cap->x<pw n->ws.length<=274877906944->n<=1099511627776->l.length+19*2 ^ n<=140737488355328->
 Calls prog 224 #[.pointer (some ⟨b,0,none⟩),.slice a ws.length c,.slice (some ⟨g,0,none⟩) n cap,.bool fill] w (Digs w0.heap.size b l fill (19*2 ^ n) x w):=by
 induction n with
 |zero=>
  intro cap fill l a c x ws w hb hd hu hp hnc hx hwl hn hl;rw[Qk9] at hx;have HWD:=Hi (Qbt a c ws 0 w hu.row hu.short (by decide));rw[Qus hu hx] at HWD;have HWC:=Hi (Qur w0 w b l x fill hT hb hd hx (by simpa using hl));clear hb hd hu hp;go_enter func224,ntmps224;go_wp2_with fail;go_fit HWD.o;rintro e w1 ⟨rfl,hw⟩;subst hw;clear HWD;go_wp2_with fail;go_fit HWC.o;rintro e w2 ⟨m,ho,rfl,hd2,hb2,hw2⟩;obtain⟨HO,HD2,HB2,HW2⟩:=Ic ho hd2 hb2 hw2;clear HWC ho hd2 hb2 hw2;go_wp2;go_end0;exact⟨m,by simpa using HO.o,rfl,HD2.o,HB2.o,HW2.o⟩
 |succ n ih=>
  intro cap fill l a c x ws w hb hd hu hp hnc hx hwl hn hl;obtain⟨ap,cp,lp,hcell,hup⟩:=hp n (by omega);obtain⟨HDV,HB,HD,HP,HIH⟩:=Id (Qi3 a ap c cp ws lp x (pw n) w hu hup (Qgp n) (by omega)) hb hd hp ih;have hq1:x / pw n<pw n:=by rw[Nat.div_lt_iff_lt_mul (Qgp n)];rw[Qem] at hx;exact hx
  have hq2:x % pw n<pw n:=Nat.mod_lt _ (Qgp n);have hlen:∀(w':World) (a':Option Addr) (c' y:Nat) (l':List Nat),U64 w' a' c' l' y->y<=x->l'.length<=ws.length:=fun w' a' c' y l' h' hy=>h'.num.length_le_of_lt (by decide) (Nat.lt_of_le_of_lt hy (by have:=Qaa (B:=18446744073709551616) (by decide) hu.num.small;rw[hu.num.eq] at this;exact this))
  obtain⟨HLEN,HX⟩:=Ia hlen (Nat.div_add_mod x (pw n));have h2:19*2 ^ (n+1)=2*(19*2 ^ n):=by rw[Nat.pow_succ];omega
  have HPE:=Hi (show pw n=10 ^ (19*2 ^ n) from rfl);have n1:((n+1:Nat):Int) - 1=(n:Int):=by omega
  have n2:((n:Int)+1) - 1=(n:Int):=by omega
  have n0:(((n+1:Nat):Int) == 0)=false:=by rw[beq_eq_false_iff_ne];omega
  have hsz:w0.heap.size<=w.heap.size:=hb.size;clear hb hd hu hp hup ih hlen;go_enter func224,ntmps224;go_wp2_with fail;go_fit HDV.o;rintro e w1 ⟨⟨aq,cq,lq,ar,cr,lr,rfl,hq,hr⟩,hb1⟩;have hz:=hq.num.len_zero (by decide);obtain⟨HL1,HL2,HQ,HR,HB1,HD1,HP1,HW1,HBB⟩:=Ih (HLEN.o _ _ _ _ _ hq (Nat.div_le_self _ _)) (HLEN.o _ _ _ _ _ hr (Nat.mod_le _ _)) hq hr hb1 (HD.o.below hb1) (HP.o.below hb1) (Wr.below HD.o.lt hb1) (HB.o.trans (hb1.mono hsz));have hsz1:=hb1.size;clear HDV hq hr hb1;cases fill with
  |true=>
   have HC1:=Hi (HIH.o cap true l aq cq (x / pw n) lq w1 HBB.o HD1.o HQ.o (HP1.o.less (by omega)) (by omega) hq1 (by have:=HL1.o;omega) (by omega) (by omega));clear hz;go_wp2_with fail;go_fit HC1.o;rintro e w2 ⟨m1,ho1,rfl,hd2,hb2,hw2⟩;obtain⟨HO1,HC2,HB2,HW2⟩:=Ic ho1 (HIH.o cap true (l++m1) ar cr (x % pw n) lr w2 (HBB.o.trans hb2) hd2 (HR.o.wrote HD1.o hw2) ((HP1.o.wrote HD1.o hw2).less (by omega)) (by omega) hq2 (by have:=HL2.o;omega) (by omega) (by rw[List.length_append];have:=ho1.most;omega)) hb2 hw2;clear HC1 ho1 hd2 hb2 hw2;go_wp2_with fail;go_fit HC2.o;rintro e w3 ⟨m2,ho2,rfl,hd3,hb3,hw3⟩;obtain⟨HO2,HD3,HB3,HW3⟩:=Ic ho2 hd3 hb3 hw3;clear HC2 ho2 hd3 hb3 hw3;go_wp2;go_end0;have ho:=Qk8 HO1.o HO2.o (.inl rfl);rw[<-HPE.o,Nat.mul_comm (x / pw n),HX.o,<-h2] at ho
   exact⟨m1++m2,ho,rfl,by rw[<-List.append_assoc];exact HD3.o,(HB1.o.mono hsz).trans (HB2.o.trans HB3.o),HW1.o.trans (HW2.o.trans HW3.o)⟩
  |false=>
   by_cases hlq:0<lq.length
   .
    have q1:((0:Int)<(lq.length:Int)):=by omega
    have HF:O (0<x / pw n):=Hi (by
     rcases Nat.eq_zero_or_pos (x / pw n) with h|h
     . have:=hz.1 h;omega
     . exact h)
    have HC1:=Hi (HIH.o cap false l aq cq (x / pw n) lq w1 HBB.o HD1.o HQ.o (HP1.o.less (by omega)) (by omega) hq1 (by have:=HL1.o;omega) (by omega) (by omega));clear hz;go_wp2_with fail;go_fit HC1.o;rintro e w2 ⟨m1,ho1,rfl,hd2,hb2,hw2⟩;obtain⟨HO1,HC2,HB2,HW2⟩:=Ic ho1 (HIH.o cap true (l++m1) ar cr (x % pw n) lr w2 (HBB.o.trans hb2) hd2 (HR.o.wrote HD1.o hw2) ((HP1.o.wrote HD1.o hw2).less (by omega)) (by omega) hq2 (by have:=HL2.o;omega) (by omega) (by rw[List.length_append];have:=ho1.most;omega)) hb2 hw2;clear HC1 ho1 hd2 hb2 hw2;go_wp2_with fail;go_fit HC2.o;rintro e w3 ⟨m2,ho2,rfl,hd3,hb3,hw3⟩;obtain⟨HO2,HD3,HB3,HW3⟩:=Ic ho2 hd3 hb3 hw3;clear HC2 ho2 hd3 hb3 hw3;go_wp2;go_end0;have ho:=Qk8 HO1.o HO2.o (.inr HF.o);rw[<-HPE.o,Nat.mul_comm (x / pw n),HX.o,<-h2] at ho
    exact⟨m1++m2,ho,rfl,by rw[<-List.append_assoc];exact HD3.o,(HB1.o.mono hsz).trans (HB2.o.trans HB3.o),HW1.o.trans (HW2.o.trans HW3.o)⟩
   .
    have q1:¬((0:Int)<(lq.length:Int)):=by omega
    have hx0:x % pw n=x:=by
     have h1:=HX.o;rw[hz.2 (by omega),Nat.mul_zero,Nat.zero_add] at h1;exact h1
    have HC2:=Hi (HIH.o cap false l ar cr (x % pw n) lr w1 HBB.o HD1.o HR.o (HP1.o.less (by omega)) (by omega) hq2 (by have:=HL2.o;omega) (by omega) (by omega));clear hz;go_wp2_with fail;go_fit HC2.o;rintro e w3 ⟨m2,ho2,rfl,hd3,hb3,hw3⟩;obtain⟨HO2,HD3,HB3,HW3⟩:=Ic ho2 hd3 hb3 hw3;clear HC2 ho2 hd3 hb3 hw3;go_wp2;go_end0;have ho:=HO2.o;rw[hx0] at ho;exact⟨m2,ho.grow (by omega),rfl,HD3.o,(HB1.o.mono hsz).trans HB3.o,HW1.o.trans HW3.o⟩
def TextAns(x:Nat)(w:World)(e:Ending)(w':World):Prop:=(∃s:ByteArray,e=.returned (.string s)/\IsDec s.data.toList x/\s.size<=140737488355328)/\Below w.heap.size w w'
theorem Quu(a:Option Addr)(c x:Nat)(ws:List Nat)(w:World)(hT:Tab w)(h:U64 w a c ws x)(hl:ws.length<=274877906944):
 Calls prog 150 #[.slice a ws.length c] w (TextAns x w):=by
 obtain⟨wA,hwA⟩:=nm (w.alloc (.cells #[.pointer none,.slice none 0 0] 165));have hbA:Below w.heap.size w wA:=by rw[<-hwA];exact(Below.refl _ _).alloc lZ _
 have hsA:wA.heap[w.heap.size]?=some (.cells #[.pointer none,.slice none 0 0] 165 (0,0)):=by rw[<-hwA];exact heap_alloc_new w _
 have hdA:Bd8 w.heap.size w.heap.size [] wA:=⟨.inl ⟨Nat.le_refl _,.slice none 0 0,hsA,World.ownsRow_nil _ _ _ _,by simp[Value.ownBlock]⟩,fun v hv=>by
  rw[Lib.cell_of_heap hsA] at hv;have:v=.slice none 0 0:=by simpa using hv.symm
  subst this;intro g hg
  simp[Value.ownBlock] at hg⟩
 obtain⟨HPO,HU,HD,HBA,HWA,HT⟩:=Ie (Qu5 a c x ws wA (h.below hbA) hl) (h.below hbA) hdA hbA hwA hT;have hsz:=hbA.size;clear hT h hbA hsA hdA hwA;go_enter func150,ntmps150;go_wp2_with fail;rw[HWA.o];go_fit HPO.o;rintro e w1 ⟨⟨g,n,cap,rfl,hnc,⟨vs,hvl,hvs,hpows⟩,hgl,hx,hnb,hroom⟩,hb1⟩;have hPw:Pw w1 g (n+1):=fun i hi=>by
  obtain⟨v,hv⟩:∃v,vs[i]?=some v:=⟨vs[i]'(by omega),gE (by omega)⟩;obtain⟨a',c',l',e',hu'⟩:=hpows i v hv;exact⟨a',c',l',by rw[hvs i v hv,e'],hu'⟩
 obtain⟨HWD,HB1⟩:=Ia (Qut w w.heap.size g HT.o (n+1) cap false [] a c x ws w1 (HBA.o.trans (hb1.mono hsz)) (HD.o.below hb1) (HU.o.below hb1) hPw hnc hx hl (by omega) (by rw[List.length_nil];omega)) (HBA.o.trans (hb1.mono hsz));have hsz1:=hb1.size;clear HPO hPw hvl hvs hpows hgl hx hb1;go_wp2_with fail;go_fit HWD.o;rintro e w2 ⟨m,ho,rfl,hd2,hb2,hw2⟩;obtain⟨HBS,HDE,HML,HB2⟩:=Ic (Quo w.heap.size w.heap.size m w2 (by have:=hd2.bd;rwa [List.nil_append] at this) (by have:=hw2.size;omega)) ho.dec ho.most (HB1.o.trans hb2);clear HWD ho hd2 hb2 hw2;go_wp2_with fail;go_fit HBS.o;rintro e w3 ⟨rfl,hb3⟩;have HB3:=Hi (HB2.o.trans hb3);clear HBS hb3;go_wp2;go_ret;refine⟨⟨_,rfl,HDE.o,?_⟩,HB3.o⟩;have h1:=HML.o;rw[<-Qag]
 show m.length<=_
 omega
def QAns(q:Rat)(w:World)(e:Ending)(w':World):Prop:=(∃s:ByteArray,e=.returned (.string s)/\QText s.data.toList q)/\Below w.heap.size w w'
theorem Qcp(s t:ByteArray):(s++t).data.toList=s.data.toList++t.data.toList:=by simp[ByteArray.data_append]
theorem Qoa(w:World)(d:Nat)(a:Option Addr)(n c:Nat):(Op.equalIn (d+1) 126 (.slice a n c) (.slice none 0 0)).run prog w=.ok a.isNone w:=by
 cases a<;>simp[Op.equalIn,run_underlying underlying126]
theorem Qob(w:World)(a:Option Addr)(n c:Nat):(Op.equal 126 (.slice a n c) (.slice none 0 0)).run prog w=.ok a.isNone w:=Qoa w 9999 a n c
theorem Qoc(w:World)(a:Option Addr)(n c:Nat):(binOp .neq 126 (.slice a n c) (.slice none 0 0)).run prog w=.ok (.bool a.isSome) w:=by
 cases a<;>simp[binOp,Qob]
theorem Qff{a:Option Addr}{n c x K:Nat}{w:World}(hT:Tab w)(h:NumV w a n c x)(hx:x<2 ^ K)(hK:K<=274877906944):Calls prog 150 #[.slice a n c] w (TextAns x w):=by
 obtain⟨l,rfl,h⟩:=h;exact Quu a c x l w hT h (Nat.le_trans (h.len_bits hx) hK)
theorem num_Q(neg:Bool)(a b:Option Addr)(n c m d K:Nat)(q:Rat)(w:World)(hT:Tab w)(h:FracAt w neg a n c b m d q)(hf:Fits q K)(hK:K<=274877906944):
 Calls prog 68 #[.agg #[.bool neg,.slice a n c,.slice b m d]] w (QAns q w):=by
 have hq:=Qoc;obtain⟨wA,hwA⟩:=nm (w.alloc (.cells #[.bool neg,.slice a n c,.slice b m d] 128));have hbA:Below w.heap.size w wA:=by rw[<-hwA];exact(Below.refl _ _).alloc lZ _
 have hsb:SB wA w.heap.size 128 #[.bool neg,.slice a n c,.slice b m d]:=by rw[<-hwA];exact SB.new w _ _
 obtain⟨HT1,HLO,HTA,HNG,HF,HSB,HBA,HWA⟩:=Ig (Qff (hT.below hbA) (h.top.below hbA) hf.1 hK) (h.low.below hbA) (hT.below hbA) h.neg hf hsb hbA hwA;have hsz:=hbA.size;clear hT h hf hbA hsb hwA;go_enter func68,ntmps68;obtain⟨-,k1,-⟩:=zc HSB.o;go_wp2_with fail;rw[HWA.o];go_fit HT1.o;rintro e w1 ⟨⟨s1,rfl,hd1,hs1⟩,hb1⟩;obtain⟨HD1,HB1,HL1,HTB⟩:=Ic hd1 (HBA.o.trans (hb1.mono hsz)) (HLO.o.below hb1) (HTA.o.below hb1);obtain⟨g0,-,g2,-⟩:=zc (HSB.o.below hb1 HSB.o.lt);have hsz1:=hb1.size;clear HT1 hd1 hb1 k1 HLO HTA;cases neg with
 |true=>
  have HSI:O (IntText ((⟨#[45]⟩:ByteArray)++s1).data.toList q.num):=Hi ⟨s1.data.toList,HD1.o,by rw[if_pos (of_decide_eq_true HNG.o.symm),Qcp];rfl⟩;rcases HL1.o with ⟨rfl,rfl,rfl,hden⟩|⟨hden,hl⟩
  .
   go_wp2;go_ret;exact⟨⟨_,rfl,_,HSI.o,.inl ⟨hden,rfl⟩⟩,HB1.o⟩
  .
   obtain⟨bb,bo,rfl⟩:=hl.some (by omega);have HT2:=Hi (Qff HTB.o hl HF.o.2 hK);clear hl;go_wp2_with fail;go_fit HT2.o;rintro e w2 ⟨⟨s2,rfl,hd2,hs2⟩,hb2⟩;obtain⟨HD2,HB2⟩:=Ia hd2 (HB1.o.trans (hb2.mono HB1.o.size));clear HT2 hd2 hb2;go_wp2;go_ret;exact⟨⟨_,rfl,_,HSI.o,.inr ⟨by omega,_,HD2.o,by rw[Qcp,Qcp];rfl⟩⟩,HB2.o⟩
 |false=>
  have HSI:O (IntText s1.data.toList q.num):=Hi ⟨s1.data.toList,HD1.o,by rw[if_neg (of_decide_eq_false HNG.o.symm)]⟩;rcases HL1.o with ⟨rfl,rfl,rfl,hden⟩|⟨hden,hl⟩
  .
   go_wp2;go_ret;exact⟨⟨_,rfl,_,HSI.o,.inl ⟨hden,rfl⟩⟩,HB1.o⟩
  .
   obtain⟨bb,bo,rfl⟩:=hl.some (by omega);have HT2:=Hi (Qff HTB.o hl HF.o.2 hK);clear hl;go_wp2_with fail;go_fit HT2.o;rintro e w2 ⟨⟨s2,rfl,hd2,hs2⟩,hb2⟩;obtain⟨HD2,HB2⟩:=Ia hd2 (HB1.o.trans (hb2.mono HB1.o.size));clear HT2 hd2 hb2;go_wp2;go_ret;exact⟨⟨_,rfl,_,HSI.o,.inr ⟨by omega,_,HD2.o,by rw[Qcp,Qcp];rfl⟩⟩,HB2.o⟩
theorem Qfg{v:Value}{K:Nat}{q:Rat}{w:World}(hT:Tab w)(h:FracV w v q)(hf:Fits q K)(hK:K<=274877906944):Calls prog 68 #[v] w (QAns q w):=by
 obtain⟨neg,a,n,c,b,m,d,rfl,h⟩:=h;exact num_Q neg a b n c m d K q w hT h hf hK
theorem Qh0(a1 a2:Option Addr)(c1 c2:Nat)(l m:List Nat)(w:World)(h1:Row .u64 w a1 c1 l)(h2:Row .u64 w a2 c2 m)(hl:l.length<=1099511627776)(hm:m.length<=1099511627776):
 Calls prog 157 #[.slice a1 l.length c1,.slice a2 m.length c2] w fun e w'=>e=.returned (.bool (decide (l=m)))/\Below w.heap.size w w':=by
 obtain⟨H1,H2⟩:=Ia h1 h2;clear h1 h2;by_cases hlm:l.length=m.length
 .
  have q1:((l.length:Int) != (m.length:Int))=false:=by simp[hlm]
  have q2:((l.length:Int) == (m.length:Int))=true:=by simp[hlm]
  go_enter func157,ntmps157;go_wp2;go_loopw [13] (fun iv wr=>∃k:Nat,k<=l.length/\iv=.int .i64 k/\l.take k=m.take k/\Below w.heap.size w wr) (fun iv _=>l.length - (intOf iv).toNat)
  case atStart=>exact⟨0,by omega,rfl,by simp,Below.refl _ _⟩
  case round=>
   obtain⟨k,hk,rfl,ht,hb⟩:=hrel;obtain⟨HT,HB⟩:=Ia ht hb;clear ht hb;by_cases hlt:k<l.length
   .
    obtain⟨b1,o1,rfl,hb1,hc1⟩:=(H1.o.below HB.o).cell k hlt;obtain⟨b2,o2,rfl,hb2,hc2⟩:=(H2.o.below HB.o).cell k (by omega);obtain⟨x,hx⟩:=nm (l.getD k 0);obtain⟨y,hy⟩:=nm (m.getD k 0);rw[hx] at hc1;rw[hy] at hc2;obtain⟨HXX,HYY⟩:=Ia hx hy;have e1:l.take (k+1)=l.take k++ [x]:=by rw[List.take_succ_eq_append_getElem hlt,<-hx,List.getD_eq_getElem?_getD,gE hlt];rfl
    have e2:m.take (k+1)=m.take k++ [y]:=by rw[List.take_succ_eq_append_getElem (by omega),<-hy,List.getD_eq_getElem?_getD,gE (by omega)];rfl
    obtain⟨HE1,HE2⟩:=Ia e1 e2;clear hx hy e1 e2;by_cases hxy:x=y
    .
     subst hxy;have q3:((x:Int) == (x:Int))=true:=by simp
     go_wp2_with fail;go_region
     all_goals
      go_wp2;go_roundw
      case rel=>exact⟨k+1,by omega,by go_num,by rw[HE1.o,HE2.o,HT.o],HB.o.drew⟩
      case measure=>simp[intOf];omega
    .
     have q3:((x:Int) == (y:Int))=false:=by rw[beq_eq_false_iff_ne];omega
     have q4:((x:Int) != (y:Int))=true:=by rw[bne_iff_ne];omega
     have HNE:O (decide (l=m)=false):=Hi (decide_eq_false (fun h=>by
      have h1:=HXX.o;rw[h,HYY.o] at h1
      exact hxy h1.symm))
     go_wp2_with fail;go_region
     all_goals
      go_wp2;go_ret;exact⟨by rw[HNE.o];rfl,HB.o.drew⟩
   .
    have hk':k=l.length:=by omega
    subst hk';have HEQ:O (decide (l=m)=true):=Hi (decide_eq_true (by have:=HT.o;rwa [List.take_length,List.take_of_length_le (by omega)] at this));go_wp2;go_ret;exact⟨by rw[HEQ.o];rfl,HB.o⟩
 .
  have q1:((l.length:Int) != (m.length:Int))=true:=by rw[bne_iff_ne];omega
  have q2:((l.length:Int) == (m.length:Int))=false:=by rw[beq_eq_false_iff_ne];omega
  have HNE:O (decide (l=m)=false):=Hi (decide_eq_false (fun h=>hlm (by rw[h])));go_enter func157,ntmps157;go_wp2;go_ret;exact⟨by rw[HNE.o];rfl,Below.refl _ _⟩
theorem Low.row{w:World}{b:Option Addr}{m d k:Nat}(h:Low w b m d k):∃L:List Nat,L.length=m/\Row .u64 w b d L/\L.length<=1099511627776/\((L= []/\k=1)∨(1<k/\Num 18446744073709551616 L k)):=by
 rcases h with ⟨rfl,rfl,rfl,rfl⟩|⟨h,l,hl,hu⟩
 . exact⟨[],rfl,Row.nil _ _,by simp,.inl ⟨rfl,rfl⟩⟩
 . exact⟨l,hl,hu.row,hu.short,.inr ⟨h,hu.num⟩⟩
theorem Qh1{L M:List Nat}{j k:Nat}(h1:(L= []/\j=1)∨(1<j/\Num 18446744073709551616 L j))(h2:(M= []/\k=1)∨(1<k/\Num 18446744073709551616 M k)):L=M↔j=k:=by
 rcases h1 with ⟨rfl,rfl⟩|⟨g1,n1⟩<;>rcases h2 with ⟨rfl,rfl⟩|⟨g2,n2⟩
 . simp
 .
  constructor
  . rintro rfl;have:=n2.eq;simp[val] at this;omega
  . intro h;omega
 .
  constructor
  . rintro rfl;have:=n1.eq;simp[val] at this;omega
  . intro h;omega
 .
  constructor
  . rintro rfl;rw[<-n1.eq,<-n2.eq]
  . rintro rfl;exact n1.inj (by decide) n2
theorem Qod(p q:Rat):p=q↔(decide (p.num<0)=decide (q.num<0)/\p.num.natAbs=q.num.natAbs/\p.den=q.den):=by
 constructor
 . rintro rfl;exact⟨rfl,rfl,rfl⟩
 .
  rintro⟨h1,h2,h3⟩;refine Rat.ext ?_ h3;rw[<-Qbo p.num,<-Qbo q.num,h1,h2]
theorem Qoe(nx ny:Bool)(ax bx ay b2:Option Addr)(lx cx mx dx ly cy my dy:Nat)(p q:Rat)(w:World)(hx:FracAt w nx ax lx cx bx mx dx p)(hy:FracAt w ny ay ly cy b2 my dy q):
 Calls prog 72 #[.agg #[.bool nx,.slice ax lx cx,.slice bx mx dx],.agg #[.bool ny,.slice ay ly cy,.slice b2 my dy]] w fun e w'=>e=.returned (.bool (decide (p=q)))/\Below w.heap.size w w':=by
 obtain⟨lX,rfl,hX⟩:=hx.top;obtain⟨lY,rfl,hY⟩:=hy.top;obtain⟨LX,rfl,hLX,hLXs,hLXk⟩:=hx.low.row;obtain⟨LY,rfl,hLY,hLYs,hLYk⟩:=hy.low.row;have hT:decide (lX=lY)=decide (p.num.natAbs=q.num.natAbs):=by
  by_cases h:p.num.natAbs=q.num.natAbs
  . rw[decide_eq_true h];rw[h] at hX;exact decide_eq_true (hX.num.inj (by decide) hY.num)
  . rw[decide_eq_false h];exact decide_eq_false (fun hc=>h (by rw[<-hX.num.eq,<-hY.num.eq,hc]))
 have hL:decide (LX=LY)=decide (p.den=q.den):=by
  by_cases h:p.den=q.den
  . rw[decide_eq_true h];exact decide_eq_true ((Qh1 hLXk hLYk).2 h)
  . rw[decide_eq_false h];exact decide_eq_false (fun hc=>h ((Qh1 hLXk hLYk).1 hc))
 have hpq:=Qod p q;rw[<-hx.neg,<-hy.neg] at hpq;obtain⟨wA,hwA⟩:=nm ((w.alloc (.cells #[.bool nx,.slice ax lX.length cx,.slice bx LX.length dx] 128)).alloc (.cells #[.bool ny,.slice ay lY.length cy,.slice b2 LY.length dy] 128));have hbA:Below w.heap.size w wA:=by rw[<-hwA];exact Below.new2 w _ _
 have hsy:SB wA (w.heap.size+1) 128 #[.bool ny,.slice ay lY.length cy,.slice b2 LY.length dy]:=by rw[<-hwA];exact SB.new2 w _ _ _ _
 have hsx:SB wA w.heap.size 128 #[.bool nx,.slice ax lX.length cx,.slice bx LX.length dx]:=by rw[<-hwA];exact(SB.new w _ _).alloc _
 obtain⟨HT1,HT2⟩:=Ia (Qh0 ax ay cx cy lX lY wA (hX.row.below hbA) (hY.row.below hbA) hX.short hY.short) (fun w1 hb=>Qh0 bx b2 dx dy LX LY w1 ((hLX.below hbA).below hb) ((hLY.below hbA).below hb) hLXs hLYs);rw[hT] at HT1;rw[hL] at HT2;obtain⟨y0,-⟩:=zc hsy;obtain⟨HSX,HSY,HBA,HWA,HPQ⟩:=Id hsx hsy hbA hwA hpq;have hsz:=hbA.size;clear hx hy hX hY hLX hLXs hLXk hLY hLYs hLYk hT hL hpq hbA hsx hsy hwA;by_cases hn:nx=ny
 .
  subst hn;by_cases ht:p.num.natAbs=q.num.natAbs
  .
   rw[decide_eq_true ht] at HT1;go_enter func72,ntmps72;go_wp2_with fail;rw[HWA.o];go_fit HT1.o;rintro e w1 ⟨rfl,hb1⟩;have HC2:=Hi (HT2.o w1 hb1);obtain⟨-,-,x2,-⟩:=zc (HSX.o.below hb1 HSX.o.lt);obtain⟨-,-,y2,-⟩:=zc (HSY.o.below hb1 HSY.o.lt);have HB1:=Hi (HBA.o.trans (hb1.mono hsz));clear HT1 HT2 hb1;go_wp2_with fail;go_fit HC2.o;rintro e w2 ⟨rfl,hb2⟩;have HB2:=Hi (HB1.o.trans (hb2.mono HB1.o.size));clear HC2 hb2;go_wp2;go_ret;refine⟨?_,HB2.o⟩;by_cases hd:p.den=q.den
   . rw[decide_eq_true hd,decide_eq_true (HPQ.o.2 ⟨by trivial,ht,hd⟩)];rfl
   . rw[decide_eq_false hd,decide_eq_false (fun h=>hd (HPQ.o.1 h).2.2)];rfl
  .
   rw[decide_eq_false ht] at HT1;have HNE:O (decide (p=q)=false):=Hi (decide_eq_false (fun h=>ht (HPQ.o.1 h).2.1));go_enter func72,ntmps72;go_wp2_with fail;rw[HWA.o];go_fit HT1.o;rintro e w1 ⟨rfl,hb1⟩;have HB1:=Hi (HBA.o.trans (hb1.mono hsz));clear HT1 HT2 hb1;go_wp2;go_ret;exact⟨by rw[HNE.o];rfl,HB1.o⟩
 .
  have q0:(nx == ny)=false:=by simpa using hn
  have HNE:O (decide (p=q)=false):=Hi (decide_eq_false (fun h=>hn (HPQ.o.1 h).1));clear HT1 HT2;go_enter func72,ntmps72;go_wp2;go_ret;exact⟨by rw[HNE.o];rfl,by rw[HWA.o];exact HBA.o⟩
theorem Qof{v1 v2:Value}{p q:Rat}{w:World}(hx:FracV w v1 p)(hy:FracV w v2 q):Calls prog 72 #[v1,v2] w fun e w'=>e=.returned (.bool (decide (p=q)))/\Below w.heap.size w w':=by
 obtain⟨nx,ax,lx,cx,bx,mx,dx,rfl,hx⟩:=hx;obtain⟨ny,ay,ly,cy,b2,my,dy,rfl,hy⟩:=hy;exact Qoe nx ny ax bx ay b2 lx cx mx dx ly cy my dy p q w hx hy
end Go.Proofs.YtjgofdclmcpopaaGreatDoor
