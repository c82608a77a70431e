/- package arch: shaped. -/
import Derived.Test.YtldjeecnapgakaaGreatDoorV32StillS
import Derived.Test.YtldjeecnapgakaaGreatDoorV31ArcL
namespace Go.Proofs.YtldjeecnapgakaaGreatDoor
open Go.RowKit
open Go.Proofs.Tryz
set_option linter.unusedSimpArgs false
set_option linter.unusedVariables false
set_option maxHeartbeats 8000000
set_option maxRecDepth 1000000
def atF(vs:List V4)(i:Nat):Rat:=((vs[i]?).map (·.1)).getD 0
def wtF(vs:List V4)(i:Nat):Rat:=((vs[i]?).map (·.2.1)).getD 0
def loF(vs:List V4)(i:Nat):Rat:=((vs[i]?).map (·.2.2.1)).getD 0
def hiF(vs:List V4)(i:Nat):Rat:=((vs[i]?).map (·.2.2.2)).getD 0
def sK(A H i:Nat):Nat:=1+(i - 2)*(A+H+1)
def pK(A H:Nat):Nat->Nat
 |0=>1
 |1=>1
 |i+2=>pK A H (i+1)+(sK A H (i+3)+(A+A+1))+1
structure Sto (A H:Nat) (vs:List V4) (h:Rat) (ts:List FE) (k:Nat):Prop where
 len:ts.length=vs.length*4
 each:∀i v,i<k->vs[i]?=some v->∃a l u s:FE,ts[i*4]?=some a/\ts[i*4+1]?=some l/\ts[i*4+2]?=some u/\ts[i*4+3]?=some s/\a.q=v.1/\l.q=v.2.2.1/\u.q=v.2.2.2/\s.q=shp (atF vs) (wtF vs) h i/\a.k<=A/\l.k<=A/\u.k<=A/\s.k<=pK A H i
theorem sK_le{A H i j:Nat}(h:i<=j):sK A H i<=sK A H j:=by
 unfold sK;have:=Nat.mul_le_mul_right (A+H+1) (show i - 2<=j - 2 by omega);omega
theorem Qkj(A H i:Nat)(h:2<=i):sK A H (i+1)=sK A H i+(A+H+1):=by
 unfold sK;rw[show i+1 - 2=(i - 2)+1 by omega,Nat.succ_mul];omega
theorem pK_up(A H:Nat):∀i,pK A H i<=pK A H (i+1)
 |0=>Nat.le_refl _
 |i+1=>by show pK A H (i+1)<=pK A H (i+1)+(sK A H (i+3)+(A+A+1))+1;omega
theorem pK_le{A H i j:Nat}(h:i<=j):pK A H i<=pK A H j:=by
 induction j with
 |zero=>rw[show i=0 by omega];exact Nat.le_refl _
 |succ j ih=>
  rcases Nat.lt_or_ge i (j+1) with h1|h1
  . exact Nat.le_trans (ih (by omega)) (pK_up A H j)
  . rw[show i=j+1 by omega];exact Nat.le_refl _
theorem Qkk(A H:Nat):pK A H 9=52*A+36*H+61:=by simp only[pK,sK];omega
theorem Qf3{A H i:Nat}(h:i<=10)(hA:A<=5000000)(hH:H<=40000000):sK A H i<=450000011:=by
 have:=sK_le (A:=A) (H:=H) h;unfold sK at*;omega
theorem Qd2{A H i:Nat}(h:i<=9):pK A H i<=52*A+36*H+61:=by rw[<-Qkk];exact pK_le h
structure Sto3 (A H:Nat) (vs:List V4) (h:Rat) (ts:List FE) (k:Nat) (v:V4):Prop where
 sto:Sto A H vs h ts k
 here:∃a l u s:FE,ts[k*4]?=some a/\ts[k*4+1]?=some l/\ts[k*4+2]?=some u/\ts[k*4+3]?=some s/\a.q=v.1/\l.q=v.2.2.1/\u.q=v.2.2.2/\s=FE.nil/\a.k<=A/\l.k<=A/\u.k<=A
theorem Sto.put{A H:Nat}{vs:List V4}{h:Rat}{ts:List FE}{k:Nat}{v:V4}{a l u:FE}(hs:Sto A H vs h ts k)(hv:vs[k]?=some v)(ha:a.q=v.1)(hl:l.q=v.2.2.1)(hu:u.q=v.2.2.2)(ka:a.k<=A:=by exact Nat.le_refl _)(kl:l.k<=A:=by exact Nat.le_refl _)(ku:u.k<=A:=by exact Nat.le_refl _):
 Sto3 A H vs h ((((ts.set (k*4) a).set (k*4+1) l).set (k*4+2) u).set (k*4+3) FE.nil) k v:=by
 have hk:=(gZ hv).1;have hl':=hs.len;refine⟨⟨by simp[hl'],fun i x hi hx=>?_⟩,a,l,u,FE.nil,?_,?_,?_,?_,ha,hl,hu,rfl,ka,kl,ku⟩
 .
  obtain⟨a',l',u',s',h1,h2,h3,h4,hr⟩:=hs.each i x hi hx;refine⟨a',l',u',s',?_,?_,?_,?_,hr⟩
  all_goals
   rw[List.getElem?_set_ne (by omega),List.getElem?_set_ne (by omega),List.getElem?_set_ne (by omega),List.getElem?_set_ne (by omega)];assumption
 . rw[List.getElem?_set_ne (by omega),List.getElem?_set_ne (by omega),List.getElem?_set_ne (by omega),List.getElem?_set_self (by omega)]
 . rw[List.getElem?_set_ne (by omega),List.getElem?_set_ne (by omega),List.getElem?_set_self (by simp;omega)]
 . rw[List.getElem?_set_ne (by omega),List.getElem?_set_self (by simp;omega)]
 . rw[List.getElem?_set_self (by simp;omega)]
theorem Sto3.low{A H:Nat}{vs:List V4}{h:Rat}{ts:List FE}{k:Nat}{v:V4}(hs:Sto3 A H vs h ts k v)(hv:vs[k]?=some v)(hk:k<2):Sto A H vs h ts (k+1):=by
 refine⟨hs.sto.len,fun i x hi hx=>?_⟩;rcases Nat.lt_or_ge i k with h1|h1
 . exact hs.sto.each i x h1 hx
 .
  obtain rfl:i=k:=by omega
  obtain rfl:=Option.some.inj (hv.symm.trans hx);obtain⟨a,l,u,s,g1,g2,g3,g4,g5,g6,g7,rfl,g8,g9,g10⟩:=hs.here;refine⟨a,l,u,FE.nil,g1,g2,g3,g4,g5,g6,g7,?_,g8,g9,g10,?_⟩
  . have:i=0∨i=1:=by omega
    rcases this with rfl|rfl<;>rfl
  . show 1<=pK A H i
    exact pK_le (i:=0) (Nat.zero_le _)
theorem Sto3.shape{A H:Nat}{vs:List V4}{h:Rat}{ts:List FE}{k:Nat}{v:V4}{s:FE}(hs:Sto3 A H vs h ts k v)(hv:vs[k]?=some v)(hq:s.q=shp (atF vs) (wtF vs) h k)(hk:s.k<=pK A H k):Sto A H vs h (ts.set (k*4+3) s) (k+1):=by
 have hl':=hs.sto.len;have hkl:=(gZ hv).1;refine⟨by simp[hl'],fun i x hi hx=>?_⟩;rcases Nat.lt_or_ge i k with h1|h1
 .
  obtain⟨a',l',u',s',h1,h2,h3,h4,hr⟩:=hs.sto.each i x h1 hx;refine⟨a',l',u',s',?_,?_,?_,?_,hr⟩
  all_goals
   rw[List.getElem?_set_ne (by omega)];assumption
 .
  obtain rfl:i=k:=by omega
  obtain rfl:=Option.some.inj (hv.symm.trans hx);obtain⟨a,l,u,s0,g1,g2,g3,g4,g5,g6,g7,_,g8,g9,g10⟩:=hs.here;refine⟨a,l,u,s,?_,?_,?_,?_,g5,g6,g7,hq,g8,g9,g10,hk⟩
  . rw[List.getElem?_set_ne (by omega)];exact g1
  . rw[List.getElem?_set_ne (by omega)];exact g2
  . rw[List.getElem?_set_ne (by omega)];exact g3
  . rw[List.getElem?_set_self (by omega)]
theorem Qkl{w:Nat->Rat}{h:Rat}{k:Nat}(hk:k<2):slo w h (k - 1)=slo w h (k+1 - 1):=by
 have:k=0∨k=1:=by omega
 rcases this with rfl|rfl<;>rfl
theorem Qf4{vs:List V4}{h:Rat}{k':Nat}{v':V4}(hv:vs[k']?=some v')(h1:1<=k'):slo (wtF vs) h (k'+1)=slo (wtF vs) h k' - h*v'.2.1:=by
 obtain⟨i,rfl⟩:∃i,k'=i+1:=⟨k' - 1,by omega⟩
 show slo (wtF vs) h (i+1) - h*wtF vs (i+1)=_
 rw[show wtF vs (i+1)=v'.2.1 by simp[wtF,hv]]
theorem Qkm{vs:List V4}{h:Rat}{k':Nat}{v v':V4}(hv':vs[k']?=some v')(hv:vs[k'+1]?=some v)(h1:1<=k'):shp (atF vs) (wtF vs) h (k'+1)=shp (atF vs) (wtF vs) h k'+(slo (wtF vs) h k' - h*v'.2.1)*(v.1 - v'.1):=by
 rw[Qbl,Qf4 hv' h1,show atF vs (k'+1)=v.1 by simp[atF,hv],show atF vs k'=v'.1 by simp[atF,hv']]
theorem Qd3(a:Option Addr)(cap A H:Nat)(ss:List T4)(vs:List V4)(x1 x2 x3:Value)(h:Rat)(w:World)(hg:Glob w)(hr:ARow T4.cells w a cap ss)(hv:StonesV ss vs)(hn:ss.length<=10)(hx:FF h H (.agg #[x1,x2,x3]) w)(hA:4194400<=A)(hA2:A<=5000000)(hH:H<=40000000):
 Calls prog 31 #[.slice a ss.length cap,.agg #[x1,x2,x3]] w fun e w'=>∃g ts,e=.returned (.slice (some ⟨g,0,none⟩) ss.length ss.length)/\w.heap.size<=g/\TBlk 82 w' g ts/\Sto A H vs h ts vs.length/\Below w.heap.size w w':=by
 obtain⟨HG,HRW,HV,HVL,HX⟩:=Id hg hr hv hv.len hx;have hmk:=fun w=>Qsq ss.length (by omega) w
 obtain⟨MC,hMC⟩:=nm (((List.replicate (ss.length*4) FE.nil).flatMap FE.cs).toArray);rw[hMC] at hmk;have HMC:=Hi hMC;obtain⟨⟨ng,xa,xn,xc,xb,xm,xd,hxe,_⟩,_⟩:=hx;cases hxe;clear hg hr hv hMC;go_enter func31,ntmps31;go_wp2_with fail;clear hmk;obtain⟨B0,hB0⟩:=nm w.heap.size;obtain⟨g,hgg⟩:=nm (B0+1);obtain⟨B2,hB2⟩:=nm (g+1);obtain⟨V,hV⟩:=nm (((w.alloc (.cells #[.bool ng,.slice xa xn xc,.slice xb xm xd] 63)).alloc (.cells MC 82)).alloc (.cells #[.bool false,.slice none 0 0,.slice none 0 0] 63));have HB0:O (Below w.heap.size w V):=Hi (by rw[<-hV];exact Below.new3 w _ _ _);have HSX:O (SB V B0 63 #[.bool ng,.slice xa xn xc,.slice xb xm xd]):=Hi (by rw[<-hV,<-hB0];exact((SB.new w _ _).alloc _).alloc _);have HSP:O (SB V B2 63 #[.bool false,.slice none 0 0,.slice none 0 0]):=Hi (by rw[<-hV,<-hB2,<-hgg,<-hB0];exact SB.new3 w _ _ _ _ _ _)
 have HTB:O (TBlk 82 V g (List.replicate (ss.length*4) FE.nil)):=Hi (by
  rw[<-hV,<-hgg,<-hB0,<-HMC.o];have:=(TBlk.new 82 (w.alloc (.cells #[.bool ng,.slice xa xn xc,.slice xb xm xd] 63)) (ss.length*4)).below (bR.alloc lZ (.cells #[.bool false,.slice none 0 0,.slice none 0 0] 63));rw[World.size_alloc] at this
  exact this)
 simp only[World.size_alloc,hB0,hgg,hB2];rw[hV];have n01:B0<g:=by omega
 have n12:g<B2:=by omega
 have HB0E:=Hi hB0;clear hV hgg hB2 hB0;go_loopw [15] (fun iv wr=>∃(k:Nat) (ts:List FE) (pe:FE),k<=ss.length/\iv=.int .i64 k/\Sto A H vs h ts k/\TBlk 82 wr g ts/\TBlk 63 wr B0 [⟨.bool ng,.slice xa xn xc,.slice xb xm xd,h,H⟩]/\TBlk 63 wr B2 [pe]/\pe.q=slo (wtF vs) h (k - 1)/\pe.k<=sK A H k/\Below w.heap.size w wr) (fun iv _=>ss.length - (intOf iv).toNat)
 case atStart=>exact⟨0,_,⟨_,_,_,0,1⟩,Nat.zero_le _,rfl,⟨by rw[HVL.o];simp,fun i v hi=>by omega⟩,HTB.o,TBlk.box HSX.o (HX.o.below HB0.o),TBlk.box HSP.o (FF.zero _),rfl,by simp[sK],HB0.o⟩
 case round=>
  obtain⟨k,ts,pe,hk,rfl,hst,htb,hsx,hsp,hpq,hpk,hb⟩:=hrel;obtain⟨HST,HTS,HSX1,HSP1,HPQ,HPK,HB⟩:=If hst htb hsx hsp hpq hpk hb;have ltg:=htb.blk.lt;have lt0:=hsx.blk.lt;have lt2:=hsp.blk.lt;clear hst htb hsx hsp hpq hpk hb;by_cases hkn:k<ss.length
  .
   obtain⟨s,hs⟩:∃s,ss[k]?=some s:=⟨_,gE hkn⟩;obtain⟨v,hv⟩:∃v,vs[k]?=some v:=⟨vs[k]'(by have:=HVL.o;omega),gE _⟩;have hsv:=HV.o.each k s v hs hv;obtain⟨sb,so,ha,hsb,d0,d1,d2,d3⟩:=(HRW.o.below HB.o).stone hs;subst ha;obtain⟨hb0,hhb0⟩:=nm wr.heap.size;obtain⟨Z,hZ⟩:=nm (wr.alloc (.cells #[.string s.a,.string s.w,.string s.l,.string s.h] 28));have hBA:Below wr.heap.size wr Z:=by rw[<-hZ];exact(Below.refl _ _).alloc lZ _
   have HSZ:=Uf hZ hhb0;obtain⟨HZE,HHB,HSV,HBZ⟩:=Ic hZ hhb0 hsv hBA;have q1:((k:Int)<(ss.length:Int)):=by omega
   clear hs hsv hZ hhb0 hBA;go_wp2_with fail;rw[HZE.o];simp only[HHB.o];clear d0 d1 d2 d3;obtain⟨Y,hY⟩:=nm Z.drew;have HYE:=Hi hY;have HBY:O (Below wr.heap.size wr Y):=Hi (by rw[<-hY];exact HBZ.o.drew);have HSY:O (SB Y hb0 28 #[.string s.a,.string s.w,.string s.l,.string s.h]):=Hi (by rw[<-hY];exact HSZ.o.below bR.drew HSZ.o.lt);have HGY:O (Glob Y):=Hi (HG.o.below (HB.o.trans (HBY.o.mono HB.o.size)));clear hY;refine RegG.bg 13 (fun j=>some (20+j)) ?_;rw[HYE.o];refine RegG.pu (c:=?_) [] (fun w hb=>?_) ?_;rotate_left
   .
    intro K hK;go_simp;exact hK
   refine RegG.pu (c:=?_) [] (fun w hb=>?_) ?_;rotate_left
   .
    intro K hK;go_simp;exact hK
   refine RegG.pu (c:=?_) [] (fun w hb=>?_) ?_;rotate_left
   .
    intro K hK;go_simp;exact hK
   refine RegG.pu (c:=?_) [2] (fun w hb=>?_) ?_;rotate_left
   .
    intro K hK;have hs4:=HSY.o.below hb HSY.o.lt;have c0:=hs4.cell 0;have c1:=hs4.cell 1;have c2:=hs4.cell 2;have c3:=hs4.cell 3;simp only[List.getElem?_toArray,List.getElem?_cons_zero,List.getElem?_cons_succ] at c0 c1 c2 c3;clear hs4;go_simp;exact hK
   refine RegG.ca (φ:=FF v.1 A) [3] (FF.stays _ _) (fun w hb=>?_) ?_
   .
    intro K hK;go_simp;exact Makes.use (FF.ofFits (HGY.o.below hb) HSV.o.a HSV.o.za.1 (HSV.o.za.2.mono hA) (by omega)) hK
   refine RegG.pu (c:=?_) [] (fun w hb=>?_) ?_;rotate_left
   .
    intro K hK;go_simp;exact hK
   refine RegG.pu (c:=?_) [5] (fun w hb=>?_) ?_;rotate_left
   .
    intro K hK;have hs4:=HSY.o.below hb HSY.o.lt;have c0:=hs4.cell 0;have c1:=hs4.cell 1;have c2:=hs4.cell 2;have c3:=hs4.cell 3;simp only[List.getElem?_toArray,List.getElem?_cons_zero,List.getElem?_cons_succ] at c0 c1 c2 c3;clear hs4;go_simp;exact hK
   refine RegG.ca (φ:=FF v.2.2.1 A) [6] (FF.stays _ _) (fun w hb=>?_) ?_
   .
    intro K hK;go_simp;exact Makes.use (FF.ofFits (HGY.o.below hb) HSV.o.l HSV.o.zl.1 (HSV.o.zl.2.mono hA) (by omega)) hK
   refine RegG.pu (c:=?_) [] (fun w hb=>?_) ?_;rotate_left
   .
    intro K hK;go_simp;exact hK
   refine RegG.pu (c:=?_) [8] (fun w hb=>?_) ?_;rotate_left
   .
    intro K hK;have hs4:=HSY.o.below hb HSY.o.lt;have c0:=hs4.cell 0;have c1:=hs4.cell 1;have c2:=hs4.cell 2;have c3:=hs4.cell 3;simp only[List.getElem?_toArray,List.getElem?_cons_zero,List.getElem?_cons_succ] at c0 c1 c2 c3;clear hs4;go_simp;exact hK
   refine RegG.ca (φ:=FF v.2.2.2 A) [9] (FF.stays _ _) (fun w hb=>?_) ?_
   .
    intro K hK;go_simp;exact Makes.use (FF.ofFits (HGY.o.below hb) HSV.o.h HSV.o.zh.1 (HSV.o.zh.2.mono hA) (by omega)) hK
   refine RegG.ca (φ:=S3 v.1 v.2.2.1 v.2.2.2 A) [4,7,10] (S3.stays _ _ _ _) (fun w hb=>?_) ?_
   .
    intro v4 h4 v7 h7 v10 h10 K hK;obtain⟨x1,x2,x3,rfl⟩:=h4.parts;obtain⟨x4,x5,x6,rfl⟩:=h7.parts;obtain⟨x7,x8,x9,rfl⟩:=h10.parts;go_simp;exact hK _ _ bR ⟨x1,x2,x3,x4,x5,x6,x7,x8,x9,rfl,h4,h7,h10⟩
   refine RegG.pu (c:=?_) [0,1] (fun w hb=>?_) ?_;rotate_left
   .
    intro K hK;go_simp;exact hK
   refine RegG.last (by rfl) (by rfl) (by rfl) (by kernel_rfl) (fun u hb=>?_);simp only[FinG,List.nil_append,List.cons_append,Qak,Act.put,List.setIfInBounds_toArray,List.set_cons_zero,List.set_cons_succ,Nat.reduceAdd];rintro v4 - v7 - v10 - _ ⟨x1,x2,x3,x4,x5,x6,x7,x8,x9,rfl,g1,g2,g3⟩ K hK;obtain⟨o1,o2,o3⟩:=g1.1.one;obtain⟨o4,o5,o6⟩:=g2.1.one;obtain⟨o7,o8,o9⟩:=g3.1.one;have s1:=Qaa prog o1;have s2:=Qaa prog o2;have s3:=Qaa prog o3;have s4:=Qaa prog o4;have s5:=Qaa prog o5;have s6:=Qaa prog o6;have s7:=Qaa prog o7;have s8:=Qaa prog o8;have s9:=Qaa prog o9;have hlen:=HST.o.len;rw[HVL.o] at hlen;have HBU:=Hi (HBY.o.trans (hb.mono HBY.o.size));have htu:=HTS.o.below HBU.o;obtain⟨y0,y1,y2,y3,hy0,hy1,hy2,hy3⟩:=Qso hlen hkn;obtain⟨t0,t1,t2,t3,t4,t5,t6,t7,t8,t9,t10,t11⟩:=htu.stone hy0 hy1 hy2 hy3;have HLEN:=Hi hlen;have f0:=htu.blk.free (k*12)
   have f1:=htu.blk.free (k*12+1);have f2:=htu.blk.free (k*12+2);have f3:=htu.blk.free (k*12+3);have f4:=htu.blk.free (k*12+4);have f5:=htu.blk.free (k*12+5);have f6:=htu.blk.free (k*12+6);have f7:=htu.blk.free (k*12+7);have f8:=htu.blk.free (k*12+8);have f9:=htu.blk.free (k*12+9);have f10:=htu.blk.free (k*12+10);have f11:=htu.blk.free (k*12+11);obtain⟨G1,G2,G3,HTU⟩:=Ic g1 g2 g3 htu;clear htu g1 g2 g3 o1 o2 o3 o4 o5 o6 o7 o8 o9 hlen hb hy0 hy1 hy2 hy3;go_simp
   obtain⟨U,hU⟩:=nm (((((((((((((u.setCell ⟨g,k*12,none⟩ x1).setCell ⟨g,k*12+1,none⟩ x2).setCell ⟨g,k*12+2,none⟩ x3).setCell ⟨g,k*12+3,none⟩ x4).setCell ⟨g,k*12+4,none⟩ x5).setCell ⟨g,k*12+5,none⟩ x6).setCell ⟨g,k*12+6,none⟩ x7).setCell ⟨g,k*12+7,none⟩ x8).setCell ⟨g,k*12+8,none⟩ x9).setCell ⟨g,k*12+9,none⟩ (.bool false)).setCell ⟨g,k*12+10,none⟩ (.slice none 0 0)).setCell ⟨g,k*12+11,none⟩ (.slice none 0 0)));obtain⟨htb1,ho1⟩:=HTU.o.set4 (i:=k) (a:=⟨x1,x2,x3,v.1,A⟩) (l:=⟨x4,x5,x6,v.2.2.1,A⟩) (u:=⟨x7,x8,x9,v.2.2.2,A⟩) (s:=FE.nil) (by rw[HLEN.o];omega) G1.o G2.o G3.o (FE.ok.nil _) hU;have hsxU:=(HSX1.o.below HBU.o).apart HTU.o ho1 (by omega);have hspU:=(HSP1.o.below HBU.o).apart HTU.o ho1 (by omega);have hbU:Below w.heap.size w U:=Only.fresh (HB.o.trans (HBU.o.mono HB.o.size)) ho1 (by have:=HB0E.o;omega);refine hK _ _ ?_;rw[hU]
   clear hU hK t0 t1 t2 t3 t4 t5 t6 t7 t8 t9 t10 t11 f0 f1 f2 f3 f4 f5 f6 f7 f8 f9 f10 f11 s1 s2 s3 s4 s5 s6 s7 s8 s9;obtain⟨HT1,HX1,HP1,HBU1⟩:=Ic htb1 hsxU hspU hbU;have ltg1:=htb1.blk.lt;have HST1:=Hi (HST.o.put (v:=v) hv rfl rfl rfl:Sto3 A H vs h ((((ts.set (k*4) ⟨x1,x2,x3,v.1,A⟩).set (k*4+1) ⟨x4,x5,x6,v.2.2.1,A⟩).set (k*4+2) ⟨x7,x8,x9,v.2.2.2,A⟩).set (k*4+3) FE.nil) k v);clear htb1 hsxU hspU hbU ho1;obtain⟨ts1,hts1⟩:=nm ((((ts.set (k*4) ⟨x1,x2,x3,v.1,A⟩).set (k*4+1) ⟨x4,x5,x6,v.2.2.1,A⟩).set (k*4+2) ⟨x7,x8,x9,v.2.2.2,A⟩).set (k*4+3) FE.nil);rw[hts1] at HT1 HST1;clear hts1 HTU HBU HST HTS HSX1 HSP1 G1 G2 G3;by_cases hk2:k<2
   .
    have e2:decide ((k:Int)<2)=true:=decide_eq_true (by omega);go_wp2;go_roundw
    case rel=>exact⟨k+1,ts1,pe,by omega,by go_num,HST1.o.low hv hk2,HT1.o,HX1.o,HP1.o,by rw[HPQ.o];exact Qkl hk2,Nat.le_trans HPK.o (sK_le (by omega)),HBU1.o⟩
    case measure=>simp[intOf];omega
   .
    have e2:decide ((k:Int)<2)=false:=decide_eq_false (by omega);obtain⟨k',hk'⟩:∃k',k=k'+1:=⟨k - 1,by omega⟩;have e1:(k:Int) - 1=(k':Int):=by omega
    have q2:((k':Int)<(ss.length:Int)):=by omega
    have wr1:IntKind.i64.wrap (k':Int)=(k':Int):=wrap_i64 _ (by omega) (by omega);have hpb:pe.k+(H+A)<68719476000:=by
     have h1:=HPK.o;have h2:=Qf3 (A:=A) (H:=H) (show k<=10 by omega) hA2 hH;omega
    have hs13:=Qf3 (A:=A) (H:=H) (show k+1<=10 by omega) hA2 hH;have hp13:=Qd2 (A:=A) (H:=H) (show k'<=9 by omega);have hb13:sK A H (k+1)+(A+A+1)<68719476000:=by omega
    have hb14:pK A H k'+(sK A H (k+1)+(A+A+1))<68719476000:=by omega
    have HPP:O (pK A H k'+(sK A H (k+1)+(A+A+1))+1<=pK A H k):=Hi (by obtain⟨i,rfl⟩:∃i,k'=i+1:=⟨k' - 1,by omega⟩;subst hk';exact Nat.le_refl _);have HSS:O (pe.k+(H+A)+1<=sK A H (k+1)):=Hi (by have h1:=HPK.o;rw[Qkj _ _ _ (by omega)];omega);clear hs13 hp13;obtain⟨s',hs'⟩:∃s',ss[k']?=some s':=⟨_,gE (by omega)⟩;obtain⟨v',hv'⟩:∃v',vs[k']?=some v':=⟨vs[k']'(by have:=HVL.o;omega),gE _⟩;have HSV':=Hi (HV.o.each k' s' v' hs' hv');obtain⟨a',l',u',z',i1,i2,i3,i4,j1,j2,j3,j4,r1,r2,r3,r4⟩:=HST1.o.sto.each k' v' (by omega) hv';obtain⟨t0,t1,t2,t3,t4,t5,t6,t7,t8,t9,t10,t11⟩:=HT1.o.stone i1 i2 i3 i4;have ka:=HT1.o.ok a' (mO i1);have kl:=HT1.o.ok l' (mO i2);have ku:=HT1.o.ok u' (mO i3);have kz:=HT1.o.ok z' (mO i4);obtain⟨o1,o2,o3⟩:=ka.1.one;obtain⟨o4,o5,o6⟩:=kl.1.one
    obtain⟨o7,o8,o9⟩:=ku.1.one;obtain⟨o10,o11,o12⟩:=kz.1.one;have s1:=Qaa prog o1;have s2:=Qaa prog o2;have s3:=Qaa prog o3;have s4:=Qaa prog o4;have s5:=Qaa prog o5;have s6:=Qaa prog o6;have s7:=Qaa prog o7;have s8:=Qaa prog o8;have s9:=Qaa prog o9;have s10:=Qaa prog o10;have s11:=Qaa prog o11;have s12:=Qaa prog o12;obtain⟨bb,hbb⟩:=nm U.heap.size;obtain⟨U1,hU1⟩:=nm (U.alloc (.cells #[a'.x,a'.y,a'.z,l'.x,l'.y,l'.z,u'.x,u'.y,u'.z,z'.x,z'.y,z'.z] 82));have HSB1:=Uf hU1 hbb;have HBU2:=Ua hU1;obtain⟨HKA,HKZ,HU1,HBB,HKK,HJ1,HJ4⟩:=If ka kz hU1 hbb hk' j1 j4;have HV':=Hi hv'
    have HS':=Hi hs';have HR:=Hi (And.intro r1 r4);have HI':=Hi (And.intro i1 i4);have HSN:O (pe.q - h*v'.2.1=slo (wtF vs) h k):=Hi (by rw[HPQ.o,hk',Qf4 hv' (by omega)];rfl);have HSQ:O (shp (atF vs) (wtF vs) h k'+(pe.q - h*v'.2.1)*(v.1 - v'.1)=shp (atF vs) (wtF vs) h k):=Hi (by rw[HPQ.o,hk',Qkm hv' (by rw[<-hk'];exact hv) (by omega)];rfl);clear ka kl ku kz o1 o2 o3 o4 o5 o6 o7 o8 o9 o10 o11 o12 hU1 hbb hk' j1 j2 j3 j4 r1 r2 r3 r4 hv' hs' i1 i2 i3 i4;go_wp2_with fail;rw[HU1.o];simp only[HBB.o];clear t0 t1 t2 t3 t4 t5 t6 t7 t8 t9 t10 t11 s1 s2 s3 s4 s5 s6 s7 s8 s9 s10 s11 s12;obtain⟨Y2,hY2⟩:=nm U1.drew;have HY2:=Hi hY2;have HBY2:O (Below U.heap.size U Y2):=Hi (by rw[<-hY2];exact HBU2.o.drew);obtain⟨HBW2,HPY,HXY,HTY⟩:=Ic (HBU1.o.trans (HBY2.o.mono HBU1.o.size)) (HP1.o.below HBY2.o) (HX1.o.below HBY2.o) (HT1.o.below HBY2.o)
    have HGY2:=Hi (HG.o.below HBW2.o);have HSB2:O (SB Y2 bb 82 #[a'.x,a'.y,a'.z,l'.x,l'.y,l'.z,u'.x,u'.y,u'.z,z'.x,z'.y,z'.z]):=Hi (by rw[<-hY2];exact HSB1.o);have hlt2:=HPY.o.blk.lt;have HXH:O (FF h H (.agg #[.bool ng,.slice xa xn xc,.slice xb xm xd]) Y2):=Hi (HXY.o.ok _ (List.mem_singleton.2 rfl));have hhb:H+A<68719476000:=by omega
    have hbbU:U.heap.size<=bb:=Nat.le_of_eq HBB.o;clear hY2;refine RegG.bg 11 (fun j=>some (40+j)) ?_;rw[HY2.o];refine RegG.pu (c:=?_) [] (fun w hb=>?_) ?_;rotate_left
    .
     intro K hK;obtain⟨c0,c1,c2⟩:=(HPY.o.below hb).at (i:=0) rfl;obtain⟨d0,d1,d2⟩:=(HXY.o.below hb).at (i:=0) rfl;obtain⟨sb2,so2,hse,_,_,w1,_,_⟩:=(HRW.o.below (HBW2.o.trans (hb.mono HBW2.o.size))).stone HS'.o;cases hse;simp only[Nat.zero_mul,Nat.zero_add] at c0 c1 c2 d0 d1 d2;go_simp;exact hK
    refine RegG.pu (c:=?_) [] (fun w hb=>?_) ?_;rotate_left
    .
     intro K hK;obtain⟨c0,c1,c2⟩:=(HPY.o.below hb).at (i:=0) rfl;obtain⟨d0,d1,d2⟩:=(HXY.o.below hb).at (i:=0) rfl;obtain⟨sb2,so2,hse,_,_,w1,_,_⟩:=(HRW.o.below (HBW2.o.trans (hb.mono HBW2.o.size))).stone HS'.o;cases hse;simp only[Nat.zero_mul,Nat.zero_add] at c0 c1 c2 d0 d1 d2;go_simp;exact hK
    refine RegG.pu (c:=?_) [] (fun w hb=>?_) ?_;rotate_left
    .
     intro K hK;go_simp;exact hK
    refine RegG.pu (c:=?_) [] (fun w hb=>?_) ?_;rotate_left
    .
     intro K hK;go_simp;exact hK
    refine RegG.pu (c:=?_) [3] (fun w hb=>?_) ?_;rotate_left
    .
     intro K hK;go_simp;exact hK
    refine RegG.pu (c:=?_) [2,4] (fun w hb=>?_) ?_;rotate_left
    .
     intro K hK;go_simp;exact hK
    refine RegG.pu (c:=?_) [5] (fun w hb=>?_) ?_;rotate_left
    .
     intro K hK;go_simp;exact hK
    refine RegG.pu (c:=?_) [6] (fun w hb=>?_) ?_;rotate_left
    .
     intro K hK;obtain⟨c0,c1,c2⟩:=(HPY.o.below hb).at (i:=0) rfl;obtain⟨d0,d1,d2⟩:=(HXY.o.below hb).at (i:=0) rfl;obtain⟨sb2,so2,hse,_,_,w1,_,_⟩:=(HRW.o.below (HBW2.o.trans (hb.mono HBW2.o.size))).stone HS'.o;cases hse;simp only[Nat.zero_mul,Nat.zero_add] at c0 c1 c2 d0 d1 d2;go_simp;exact hK
    refine RegG.ca (φ:=FF v'.2.1 A) [7] (FF.stays _ _) (fun w hb=>?_) ?_
    .
     intro K hK;go_simp;exact Makes.use (FF.ofFits (HGY2.o.below hb) HSV'.o.w HSV'.o.zw.1 (HSV'.o.zw.2.mono hA) (by omega)) hK
    refine RegG.ca (φ:=FF (h*v'.2.1) (H+A)) [1,8] (FF.stays _ _) (fun w hb=>?_) ?_
    .
     intro v8 h8;intro K hK;go_simp;exact Makes.use (FF.times (HXH.o.below hb) h8 hhb) hK
    refine RegG.ca (φ:=FF (pe.q - h*v'.2.1) (pe.k+(H+A)+1)) [0,9] (FF.stays _ _) (fun w hb=>?_) ?_
    .
     intro v9 h9;intro K hK;go_simp;exact Makes.use (FF.minus ((HPY.o.below hb).ok _ (List.mem_singleton.2 rfl)) h9 hpb) hK
    refine RegG.last (by rfl) (by rfl) (by rfl) (by kernel_rfl) (fun u2 hb=>?_);simp only[FinG,List.nil_append,List.cons_append,Qak,Act.put,List.setIfInBounds_toArray,List.set_cons_zero,List.set_cons_succ,Nat.reduceAdd];intro v8 _ v9 _ v10' h10 K hK;obtain⟨m1,m2,m3,rfl⟩:=h10.parts;obtain⟨o1,o2,o3⟩:=h10.1.one;have s1:=Qaa prog o1;have s2:=Qaa prog o2;have s3:=Qaa prog o3;have hpu:=HPY.o.below hb;obtain⟨c0,c1,c2⟩:=hpu.at (i:=0) rfl;simp only[Nat.zero_mul,Nat.zero_add] at c0 c1 c2;have f0:=hpu.blk.free 0;have f1:=hpu.blk.free 1;have f2:=hpu.blk.free 2;obtain⟨hpn,hon⟩:=hpu.set (k:=0) (e:=⟨m1,m2,m3,_,_⟩) (by simp) h10;simp only[Nat.zero_mul,Nat.zero_add,List.set_cons_zero] at hpn hon;obtain⟨HPN,HON,HPU,HB2⟩:=Ic hpn hon hpu hb;clear hpn hon hpu h10 o1 o2 o3 hb;go_simp;refine hK _ _ ?_;clear hK c0 c1 c2 f0 f1 f2 s1 s2 s3
    obtain⟨U3,hU3⟩:=nm (((u2.setCell ⟨B2,0,none⟩ m1).setCell ⟨B2,1,none⟩ m2).setCell ⟨B2,2,none⟩ m3);rw[hU3] at HPN HON ⊢;clear hU3;have ne2:bb≠B2:=by
     have:=HP1.o.blk.lt;omega
    obtain⟨HT3,HX3,HSB3⟩:=Ib ((HTY.o.below HB2.o).apart HPU.o HON.o (by omega)) ((HXY.o.below HB2.o).apart HPU.o HON.o (by omega)) ((HSB2.o.below HB2.o HSB2.o.lt).only HON.o ne2);have HBW3:O (Below w.heap.size w U3):=Hi (Only.fresh (HBW2.o.trans (HB2.o.mono HBW2.o.size)) HON.o (by have:=HB0E.o;omega));clear HPU HON HB2 HTY HXY HPY HSB2 HXH HBY2 HBW2 HT1 HX1 HP1 HBU1 HBU2 HSB1 HGY2;go_wp2_with fail;obtain⟨a4,l4,u4,z4,n1,n2,n3,n4,n5,n6,n7,n8,n9,n10,n11⟩:=HST1.o.here;obtain⟨Y4,hY4⟩:=nm U3.drew;have HY4:=Hi hY4;have HBY4:O (Below U3.heap.size U3 Y4):=Hi (by rw[<-hY4];exact(Below.refl _ _).drew);obtain⟨HT4,HP4,HX4,HSB4,HI⟩:=Id (HT3.o.below HBY4.o) (HPN.o.below HBY4.o) (HX3.o.below HBY4.o) (HSB3.o.below HBY4.o HSB3.o.lt) (And.intro n1 (And.intro n2 (And.intro n3 n4)))
    have FA4:O (FF v.1 A (.agg #[a4.x,a4.y,a4.z]) Y4):=Hi (by have h1:=HT4.o.ok a4 (mO n1);rw[<-n5];exact FF.mono h1 n9);have FA':O (FF v'.1 A (.agg #[a'.x,a'.y,a'.z]) Y4):=Hi (by rw[<-HJ1.o];exact FF.mono (HT4.o.ok a' (mO HI'.o.1)) HR.o.1);have FZ':O (FF (shp (atF vs) (wtF vs) h k') (pK A H k') (.agg #[z'.x,z'.y,z'.z]) Y4):=Hi (by rw[<-HJ4.o];exact FF.mono (HT4.o.ok z' (mO HI'.o.2)) HR.o.2);have FP4:O (FF (pe.q - h*v'.2.1) (sK A H (k+1)) (.agg #[m1,m2,m3]) Y4):=Hi (FF.mono (HP4.o.ok _ (List.mem_singleton.2 rfl)) HSS.o);clear hY4 n1 n2 n3 n4 n5 n6 n7 n8 n9 n10 n11;refine RegG.bg 17 (fun j=>some (51+j)) ?_;rw[HY4.o];refine RegG.pu (c:=?_) [] (fun w hb=>?_) ?_;rotate_left
    .
     intro K hK;go_simp;exact hK
    refine RegG.pu (c:=?_) [] (fun w hb=>?_) ?_;rotate_left
    .
     intro K hK;go_simp;exact hK
    refine RegG.pu (c:=?_) [] (fun w hb=>?_) ?_;rotate_left
    .
     intro K hK;go_simp;exact hK
    refine RegG.pu (c:=?_) [2] (fun w hb=>?_) ?_;rotate_left
    .
     intro K hK;obtain⟨c0,c1,c2⟩:=(HP4.o.below hb).at (i:=0) rfl;simp only[Nat.zero_mul,Nat.zero_add] at c0 c1 c2;obtain⟨i1,i2,i3,i4⟩:=HI.o;obtain⟨t0,t1,t2,_⟩:=(HT4.o.below hb).stone i1 i2 i3 i4;have hs12:=HSB4.o.below hb HSB4.o.lt;have g0:=hs12.cell 0;have g1:=hs12.cell 1;have g2:=hs12.cell 2;have g9:=hs12.cell 9;have g10:=hs12.cell 10;have g11:=hs12.cell 11;simp only[List.getElem?_toArray,List.getElem?_cons_zero,List.getElem?_cons_succ] at g0 g1 g2 g9 g10 g11;clear hs12 i1 i2 i3 i4;go_simp;exact hK
    refine RegG.pu (c:=?_) [] (fun w hb=>?_) ?_;rotate_left
    .
     intro K hK;obtain⟨c0,c1,c2⟩:=(HP4.o.below hb).at (i:=0) rfl;simp only[Nat.zero_mul,Nat.zero_add] at c0 c1 c2;obtain⟨i1,i2,i3,i4⟩:=HI.o;obtain⟨t0,t1,t2,_⟩:=(HT4.o.below hb).stone i1 i2 i3 i4;have hs12:=HSB4.o.below hb HSB4.o.lt;have g0:=hs12.cell 0;have g1:=hs12.cell 1;have g2:=hs12.cell 2;have g9:=hs12.cell 9;have g10:=hs12.cell 10;have g11:=hs12.cell 11;simp only[List.getElem?_toArray,List.getElem?_cons_zero,List.getElem?_cons_succ] at g0 g1 g2 g9 g10 g11;clear hs12 i1 i2 i3 i4;go_simp;exact hK
    refine RegG.pu (c:=?_) [] (fun w hb=>?_) ?_;rotate_left
    .
     intro K hK;go_simp;exact hK
    refine RegG.pu (c:=?_) [] (fun w hb=>?_) ?_;rotate_left
    .
     intro K hK;go_simp;exact hK
    refine RegG.pu (c:=?_) [5,6] (fun w hb=>?_) ?_;rotate_left
    .
     intro K hK;go_simp;exact hK
    refine RegG.pu (c:=?_) [7] (fun w hb=>?_) ?_;rotate_left
    .
     intro K hK;go_simp;exact hK
    refine RegG.pu (c:=?_) [8] (fun w hb=>?_) ?_;rotate_left
    .
     intro K hK;obtain⟨c0,c1,c2⟩:=(HP4.o.below hb).at (i:=0) rfl;simp only[Nat.zero_mul,Nat.zero_add] at c0 c1 c2;obtain⟨i1,i2,i3,i4⟩:=HI.o;obtain⟨t0,t1,t2,_⟩:=(HT4.o.below hb).stone i1 i2 i3 i4;have hs12:=HSB4.o.below hb HSB4.o.lt;have g0:=hs12.cell 0;have g1:=hs12.cell 1;have g2:=hs12.cell 2;have g9:=hs12.cell 9;have g10:=hs12.cell 10;have g11:=hs12.cell 11;simp only[List.getElem?_toArray,List.getElem?_cons_zero,List.getElem?_cons_succ] at g0 g1 g2 g9 g10 g11;clear hs12 i1 i2 i3 i4;go_simp;exact hK
    refine RegG.pu (c:=?_) [] (fun w hb=>?_) ?_;rotate_left
    .
     intro K hK;go_simp;exact hK
    refine RegG.pu (c:=?_) [10] (fun w hb=>?_) ?_;rotate_left
    .
     intro K hK;obtain⟨c0,c1,c2⟩:=(HP4.o.below hb).at (i:=0) rfl;simp only[Nat.zero_mul,Nat.zero_add] at c0 c1 c2;obtain⟨i1,i2,i3,i4⟩:=HI.o;obtain⟨t0,t1,t2,_⟩:=(HT4.o.below hb).stone i1 i2 i3 i4;have hs12:=HSB4.o.below hb HSB4.o.lt;have g0:=hs12.cell 0;have g1:=hs12.cell 1;have g2:=hs12.cell 2;have g9:=hs12.cell 9;have g10:=hs12.cell 10;have g11:=hs12.cell 11;simp only[List.getElem?_toArray,List.getElem?_cons_zero,List.getElem?_cons_succ] at g0 g1 g2 g9 g10 g11;clear hs12 i1 i2 i3 i4;go_simp;exact hK
    refine RegG.ca (φ:=FF (v.1 - v'.1) (A+A+1)) [9,11] (FF.stays _ _) (fun w hb=>?_) ?_
    .
     intro K hK;go_simp;exact Makes.use (FF.minus (FA4.o.below hb) (FA'.o.below hb) (by omega)) hK
    refine RegG.ca (φ:=FF ((pe.q - h*v'.2.1)*(v.1 - v'.1)) (sK A H (k+1)+(A+A+1))) [4,12] (FF.stays _ _) (fun w hb=>?_) ?_
    .
     intro v12 h12;intro K hK;go_simp;exact Makes.use (FF.times (FP4.o.below hb) h12 hb13) hK
    refine RegG.ca (φ:=FF (shp (atF vs) (wtF vs) h k'+(pe.q - h*v'.2.1)*(v.1 - v'.1)) (pK A H k'+(sK A H (k+1)+(A+A+1))+1)) [3,13] (FF.stays _ _) (fun w hb=>?_) ?_
    .
     intro v13 h13;intro K hK;go_simp;exact Makes.use (FF.plus (FZ'.o.below hb) h13 hb14) hK
    refine RegG.pu (c:=?_) [0,1] (fun w hb=>?_) ?_;rotate_left
    .
     intro K hK;go_simp;exact hK
    refine RegG.pu (c:=?_) [15] (fun w hb=>?_) ?_;rotate_left
    .
     intro K hK;go_simp;exact hK
    refine RegG.last (by rfl) (by rfl) (by rfl) (by kernel_rfl) (fun u5 hb=>?_);simp only[FinG,List.nil_append,List.cons_append,Qak,Act.put,List.setIfInBounds_toArray,List.set_cons_zero,List.set_cons_succ,Nat.reduceAdd];intro v12 _ v13 _ v14 h14 K hK;obtain⟨b1,b2,b3,rfl⟩:=h14.parts;obtain⟨o1,o2,o3⟩:=h14.1.one;have s1:=Qaa prog o1;have s2:=Qaa prog o2;have s3:=Qaa prog o3;have htu:=HT4.o.below hb;obtain⟨i1,i2,i3,i4⟩:=HI.o;obtain⟨t0,t1,t2,t3,t4,t5,t6,t7,t8,t9,t10,t11⟩:=htu.stone i1 i2 i3 i4;have f9:=htu.blk.free (k*12+9);have f10:=htu.blk.free (k*12+10);have f11:=htu.blk.free (k*12+11);obtain⟨HTU,HB5,H14⟩:=Ib htu hb h14;clear htu i1 i2 i3 i4 h14 o1 o2 o3 hb t0 t1 t2 t3 t4 t5 t6 t7 t8;go_simp;refine hK _ _ ?_;clear hK t9 t10 t11 f9 f10 f11 s1 s2 s3
    obtain⟨U5,hU5⟩:=nm (((u5.setCell ⟨g,k*12+9,none⟩ b1).setCell ⟨g,k*12+10,none⟩ b2).setCell ⟨g,k*12+11,none⟩ b3);rw[hU5];obtain⟨hT5,hO5⟩:=HTU.o.setS (i:=k) (s:=⟨b1,b2,b3,_,_⟩) (by rw[HST1.o.sto.len];have:=HVL.o;omega) H14.o hU5;have hP5:=(HP4.o.below HB5.o).apart HTU.o hO5 (by omega);have hX5:=(HX4.o.below HB5.o).apart HTU.o hO5 (by omega);have hB5:Below w.heap.size w U5:=Only.fresh ((HBW3.o.trans (HBY4.o.mono HBW3.o.size)).trans (HB5.o.mono (HBW3.o.trans (HBY4.o.mono HBW3.o.size)).size)) hO5 (by have:=HB0E.o;omega);obtain⟨HT5,HP5,HX5,HB6⟩:=Ic hT5 hP5 hX5 hB5;clear hT5 hP5 hX5 hB5 hO5 hU5;go_wp2;go_roundw
    case rel=>exact⟨k+1,_,_,by omega,by go_num,HST1.o.shape hv HSQ.o HPP.o,HT5.o,HX5.o,HP5.o,HSN.o,HSS.o,HB6.o⟩
    case measure=>simp[intOf];omega
  .
   obtain rfl:k=ss.length:=by omega
   go_wp2;go_ret;exact⟨g,ts,rfl,by have:=HB0E.o;omega,HTS.o,by rw[HVL.o];exact HST.o,HB.o⟩
end Go.Proofs.YtldjeecnapgakaaGreatDoor
