/- The laws' stands. -/
import Derived.Test.YtldjeecnapgakaaGreatDoorV44ArkZ
namespace Go.Proofs.YtldjeecnapgakaaGreatDoor
open Go.RowKit
open Go.Proofs.Tryz
set_option linter.unusedSimpArgs false
set_option linter.unusedVariables false
set_option maxHeartbeats 8000000
set_option maxRecDepth 1000000
theorem Qef(a:Option Addr)(cap n K:Nat)(ls:List ByteArray)(y:Nat->Rat)(w:World)(hg:Glob w)(h:ARow tc w a cap ls)(hy:HeightsV ls y K)(hn:ls.length=n)(hl:n<=1000):
 Calls prog 22 #[.slice a n cap] w fun e w'=>∃(v:Value) (ts:List RT),e=.returned v/\PGrow w' w.heap.size v ts/\ts.length=n/\(∀(i:Nat) (t:RT),ts[i]?=some t->t.2.1=y i/\t.2.2=K)/\Below w.heap.size w w':=by
 obtain⟨HH,HG,HHY,HN⟩:=Ic h hg hy hn;clear h hg hy hn;go_enter func22,ntmps22;go_wp2_with fail;go_loopw [3,8] (fun ov iv wr=>∃(k:Nat) (ts:List RT),k<=n/\iv=.int .i64 k/\PGrow wr w.heap.size ov ts/\ts.length=k/\(∀(i:Nat) (t:RT),ts[i]?=some t->t.2.1=y i/\t.2.2=K)/\Below w.heap.size w wr) (fun _ iv _=>n - (intOf iv).toNat)
 case atStart=>exact⟨0,[],Nat.zero_le _,rfl,PGrow.nil _ _,rfl,fun i t ht=>by simp at ht,Below.refl _ _⟩
 case round=>
  obtain⟨k,ts,hk,rfl,hpg,htl,hty,hbw⟩:=hrel;obtain⟨oa,oc,hov,_⟩:=hpg.row;obtain⟨HPG,HTL,HTY,HBW⟩:=Ic hpg htl hty hbw;subst hov;clear hpg htl hty hbw;by_cases hlt:k<n
  .
   obtain⟨s,hs⟩:∃s,ls[k]?=some s:=⟨ls[k]'(by have:=HN.o;omega),gE _⟩;obtain⟨b,off,rfl,hb,x0⟩:=(HH.o.below HBW.o).text hs;have HYK:=Hi (HHY.o.each k s hs);have q1:((k:Int)<(n:Int)):=by omega
   clear hs;go_wp2_with fail;refine Makes.use (RF.of (HG.o.below HBW.o) HYK.o.1 HYK.o.2.2 HYK.o.2.1 HHY.o.pos) ?_;rintro _ w2 hb2 ⟨bn,rfl,hrv,hfit,hk0⟩;have HB2:=Hi (HBW.o.trans (hb2.mono HBW.o.size));have hpg2:=HPG.o.below hb2;obtain⟨Y,hY⟩:=nm (w2.alloc (.cells #[.pointer (some ⟨bn,0,none⟩)] 42));have hbY:Below w2.heap.size w2 Y:=by rw[<-hY];exact(Below.refl _ _).alloc lZ _
   have hcY:SB Y w2.heap.size 42 #[.pointer (some ⟨bn,0,none⟩)]:=by rw[<-hY];exact SB.new w2 _ _
   obtain⟨v',w',happ,hgn,hbn,_⟩:=(hpg2.below hbY).app (us:=[(bn,y k,K)]) (nb:=w2.heap.size) (c:=1) (m:=1) (fun t ht=>by
    obtain rfl:=List.mem_singleton.1 ht
    exact⟨hrv.below hbY,hfit,hk0⟩) rfl (fun j u hj=>by
    cases j with
    |zero=>cases hj;exact(hcY.cell 0).trans rfl
    |succ j=>simp at hj) (by have:=HTL.o;omega) (Nat.le_trans HB2.o.size hbY.size) 51
   rw[<-hY] at happ;have HGN:=Hi hgn;have HBN:O (Below w.heap.size w w'):=Hi ((HB2.o.trans (hbY.mono HB2.o.size)).trans hbn);clear hb2 hpg2 hY hbY hcY hgn hbn hrv hfit hk0 x0;go_wp2;go_roundw
   case rel=>
    refine⟨k+1,ts++ [(bn,y k,K)],by omega,by go_num,HGN.o,by simp[HTL.o],fun i t' ht'=>?_,HBN.o⟩;rcases Nat.lt_or_ge i k with hi|hi
    . rw[List.getElem?_append_left (by have:=HTL.o;omega)] at ht'
      exact HTY.o i t' ht'
    .
     have hil:=(gZ ht').1;rw[List.length_append,HTL.o] at hil;obtain rfl:i=k:=by simp at hil;omega
     rw[List.getElem?_append_right (by have:=HTL.o;omega),HTL.o,Nat.sub_self] at ht';cases ht';exact⟨rfl,rfl⟩
   case measure=>simp[intOf];omega
  .
   obtain rfl:k=n:=by omega
   go_wp2;go_ret;exact⟨_,ts,rfl,HPG.o,HTL.o,HTY.o,HBW.o⟩
theorem RF.quo{u v:Value}{p q:Rat}{j k:Nat}{w:World}(h1:RF p j u w)(h2:RF q k v w)(hq:q≠0)(hj:j+k<274877906000):Calls prog 43 #[u,v] w (Makes w (RF (p / q) (j+k))):=by
 obtain⟨b,rfl,r1,f1,hj0⟩:=h1;obtain⟨c,rfl,r2,f2,hk0⟩:=h2;exact(Qrg b c j k p q w r1 r2 f1 f2 hj (fun h=>hq (Rat.num_eq_zero.1 h))).mono fun e w' h=>h.makes (f1.div f2 hj0 hk0) (by omega)
structure StW (w:World) (b5 b3:Nat) (ay al:Option Addr) (cy cl n Ky:Nat) (ts:List RT) (ss:List T4) (y:Nat->Rat):Prop where
 g:Glob w
 s5:SB w b5 51 #[.slice ay n cy]
 s3:SB w b3 22 #[.slice al n cl]
 py:PRow w ay ts
 ty:∀(i:Nat) (t:RT),ts[i]?=some t->t.2.1=y i/\t.2.2=Ky
 tl:ts.length=n
 rl:ARow T4.cells w al cl ss
 sl:ss.length=n
theorem StW.below{w w':World}{b5 b3:Nat}{ay al:Option Addr}{cy cl n Ky:Nat}{ts:List RT}{ss:List T4}{y:Nat->Rat}(h:StW w b5 b3 ay al cy cl n Ky ts ss y)(hb:Below w.heap.size w w'):StW w' b5 b3 ay al cy cl n Ky ts ss y:=
 ⟨h.g.below hb,h.s5.below hb h.s5.lt,h.s3.below hb h.s3.lt,h.py.below hb,h.ty,h.tl,h.rl.below hb,h.sl⟩
theorem StW.num{w:World}{b5 b3:Nat}{ay al:Option Addr}{cy cl n Ky:Nat}{ts:List RT}{ss:List T4}{y:Nat->Rat}(h:StW w b5 b3 ay al cy cl n Ky ts ss y){i:Nat}(hi:i<n):∃b o q,ay=some ⟨b,o,none⟩/\b<w.heap.size/\w.cell? ⟨b,o+i,none⟩=some (.pointer (some ⟨q,0,none⟩))/\RF (y i) Ky (.pointer (some ⟨q,0,none⟩)) w:=by
 have ht:ts[i]?=some (ts[i]'(by rw[h.tl];exact hi)):=gE _;obtain⟨b,o,h1,h2,h3⟩:=h.py.at ht;obtain⟨e1,e2⟩:=h.ty i _ ht;obtain⟨v1,v2,v3⟩:=h.py.vs _ (mO ht);rw[e1] at v1 v2;rw[e2] at v2 v3;exact⟨b,o,_,h1,h2,h3,_,rfl,v1,v2,v3⟩
theorem Qgm{b5 b3:Nat}{ay al:Option Addr}{cy cl n Ky i j:Nat}{ts:List RT}{ss:List T4}{vs:List V4}{y:Nat->Rat}{w:World}{u v:V4}(hs:StW w b5 b3 ay al cy cl n Ky ts ss y)(hv:StonesV ss vs)(hi:i<n)(hj:j<n)(hn:n<=10)(hu:vs[i]?=some u)(hvj:vs[j]?=some v)(hne:v.1 - u.1≠0)(hk:Ky<=4000000000):
 Calls prog 60 #[.int .i64 i,.int .i64 j,.pointer (some ⟨b5,0,none⟩),.pointer (some ⟨b3,0,none⟩)] w (Makes w (RF ((y j - y i) / (v.1 - u.1)) (Ky+Ky+1+(4194400+4194400+1)))):=by
 obtain⟨Y,hY⟩:=nm w.drew;have hby:Below w.heap.size w Y:=by rw[<-hY];exact(Below.refl _ _).drew
 have hsy:=hs.below hby;obtain⟨yb,yo,qi,rfl,hyb,yi,fi⟩:=hsy.num hi;obtain⟨yb',yo',qj,e,_,yj,fj⟩:=hsy.num hj;cases e;obtain⟨si,hsi⟩:∃s,ss[i]?=some s:=⟨ss[i]'(by rw[hs.sl];exact hi),gE _⟩;obtain⟨sj,hsj⟩:∃s,ss[j]?=some s:=⟨ss[j]'(by rw[hs.sl];exact hj),gE _⟩;obtain⟨lb,lo,rfl,hlb,li,_⟩:=hsy.rl.stone hsi;obtain⟨lb',lo',e,_,lj,_⟩:=hsy.rl.stone hsj;cases e;obtain⟨HVI,HVJ,HS,HYI,HYJ,HLI,HLJ,FI,FJ⟩:=Ih (hv.each i si u hsi hu) (hv.each j sj v hsj hvj) hsy yi yj li lj fi fj;obtain⟨HYE,HBY,HNE⟩:=Ib hY hby hne;have q1:((i:Int)<(n:Int)):=by omega
 have q2:((j:Int)<(n:Int)):=by omega
 clear hs hv hu hvj hY hby hsy yi yj li lj fi fj hsi hsj hne;go_enter func60,ntmps60;go_wp2_with fail;refine RegG.bg 24 (fun j=>some (bif j == 23 then 6 else 7+j)) ?_;rw[HYE.o];refine RegG.pu (c:=?_) [] (fun w hb=>?_) ?_;rotate_left
 .
  intro K hK;have x5:=((HS.o.below hb).s5).cell 0;simp only[List.getElem?_toArray,List.getElem?_cons_zero] at x5;go_simp;exact hK
 refine RegG.pu (c:=?_) [] (fun w hb=>?_) ?_;rotate_left
 .
  intro K hK;go_simp;exact hK
 refine RegG.pu (c:=?_) [0,1] (fun w hb=>?_) ?_;rotate_left
 .
  intro K hK;go_simp;exact hK
 refine RegG.pu (c:=?_) [2] (fun w hb=>?_) ?_;rotate_left
 .
  intro K hK;have xj:=(Below.cell hb (p:=⟨yb,yo+j,none⟩) hyb).trans HYJ.o;go_simp;exact hK
 refine RegG.pu (c:=?_) [] (fun w hb=>?_) ?_;rotate_left
 .
  intro K hK;have x5:=((HS.o.below hb).s5).cell 0;simp only[List.getElem?_toArray,List.getElem?_cons_zero] at x5;go_simp;exact hK
 refine RegG.pu (c:=?_) [] (fun w hb=>?_) ?_;rotate_left
 .
  intro K hK;go_simp;exact hK
 refine RegG.pu (c:=?_) [4,5] (fun w hb=>?_) ?_;rotate_left
 .
  intro K hK;go_simp;exact hK
 refine RegG.pu (c:=?_) [6] (fun w hb=>?_) ?_;rotate_left
 .
  intro K hK;have xi:=(Below.cell hb (p:=⟨yb,yo+i,none⟩) hyb).trans HYI.o;go_simp;exact hK
 refine RegG.ca (φ:=RF (y j - y i) (Ky+Ky+1)) [3,7] (RF.stays _ _) (fun w hb=>?_) ?_
 .
  intro K hK;go_simp;exact Makes.use (RF.sub (FJ.o.below hb) (FI.o.below hb) (by omega)) hK
 refine RegG.pu (c:=?_) [] (fun w hb=>?_) ?_;rotate_left
 .
  intro K hK;have x3:=((HS.o.below hb).s3).cell 0;simp only[List.getElem?_toArray,List.getElem?_cons_zero] at x3;go_simp;exact hK
 refine RegG.pu (c:=?_) [] (fun w hb=>?_) ?_;rotate_left
 .
  intro K hK;go_simp;exact hK
 refine RegG.pu (c:=?_) [9,10] (fun w hb=>?_) ?_;rotate_left
 .
  intro K hK;go_simp;exact hK
 refine RegG.pu (c:=?_) [11] (fun w hb=>?_) ?_;rotate_left
 .
  intro K hK;go_simp;exact hK
 refine RegG.pu (c:=?_) [12] (fun w hb=>?_) ?_;rotate_left
 .
  intro K hK;have xj:=(Below.cell hb (p:=⟨lb,lo+j*4,none⟩) hlb).trans HLJ.o;go_simp;exact hK
 refine RegG.ca (φ:=RF v.1 4194400) [13] (RF.stays _ _) (fun w hb=>?_) ?_
 .
  intro K hK;go_simp;exact Makes.use (RF.of (HS.o.below hb).g HVJ.o.a HVJ.o.za.1 HVJ.o.za.2 (by decide)) hK
 refine RegG.pu (c:=?_) [] (fun w hb=>?_) ?_;rotate_left
 .
  intro K hK;have x3:=((HS.o.below hb).s3).cell 0;simp only[List.getElem?_toArray,List.getElem?_cons_zero] at x3;go_simp;exact hK
 refine RegG.pu (c:=?_) [] (fun w hb=>?_) ?_;rotate_left
 .
  intro K hK;go_simp;exact hK
 refine RegG.pu (c:=?_) [15,16] (fun w hb=>?_) ?_;rotate_left
 .
  intro K hK;go_simp;exact hK
 refine RegG.pu (c:=?_) [17] (fun w hb=>?_) ?_;rotate_left
 .
  intro K hK;go_simp;exact hK
 refine RegG.pu (c:=?_) [18] (fun w hb=>?_) ?_;rotate_left
 .
  intro K hK;have xi:=(Below.cell hb (p:=⟨lb,lo+i*4,none⟩) hlb).trans HLI.o;go_simp;exact hK
 refine RegG.ca (φ:=RF u.1 4194400) [19] (RF.stays _ _) (fun w hb=>?_) ?_
 .
  intro K hK;go_simp;exact Makes.use (RF.of (HS.o.below hb).g HVI.o.a HVI.o.za.1 HVI.o.za.2 (by decide)) hK
 refine RegG.ca (φ:=RF (v.1 - u.1) (4194400+4194400+1)) [14,20] (RF.stays _ _) (fun w hb=>?_) ?_
 .
  intro v3 h3 v6 h6;intro K hK;go_simp;exact Makes.use (RF.sub h3 h6 (by decide)) hK
 refine RegG.ca (φ:=RF ((y j - y i) / (v.1 - u.1)) (Ky+Ky+1+(4194400+4194400+1))) [8,21] (RF.stays _ _) (fun w hb=>?_) ?_
 .
  intro v3 h3 v6 h6;intro K hK;go_simp;exact Makes.use (RF.quo h3 h6 HNE.o (by omega)) hK
 refine RegG.ca (φ:=RF ((y j - y i) / (v.1 - u.1)) (Ky+Ky+1+(4194400+4194400+1))) [22] (RF.stays _ _) (fun w hb=>?_) ?_
 .
  intro vq hq K hK;go_simp;exact hK _ _ bR hq
 refine RegG.fi (fun u9 hb=>?_);intro v8 _ v14 _ v20 _ v21 _ v22 _ v23 h23;obtain⟨HF,HB9⟩:=Ia h23 (HBY.o.trans (hb.mono HBY.o.size));clear h23 hb;go_wp2;go_ret;exact⟨_,rfl,HB9.o,HF.o⟩
def slpY(vs:List V4)(y:Nat->Rat)(i j:Nat):Rat:=(y j - y i) / (atF vs j - atF vs i)
def stdTo(vs:List V4)(h:Rat)(y:Nat->Rat)(n k:Nat):Prop:=∀i,i<k->(loF vs i<=y i/\y i<=hiF vs i)/\(0<i->i+1<n->slpY vs y (i - 1) i - slpY vs y i (i+1)=h*wtF vs i)
theorem Qeg{vs:List V4}{h:Rat}{y:Nat->Rat}{n k:Nat}(hs:stdTo vs h y n k)(h1:loF vs k<=y k/\y k<=hiF vs k)(h2:0<k->k+1<n->slpY vs y (k - 1) k - slpY vs y k (k+1)=h*wtF vs k):stdTo vs h y n (k+1):=fun i hi=>by
 rcases Nat.lt_or_ge i k with hk|hk
 . exact hs i hk
 . obtain rfl:i=k:=by omega
   exact⟨h1,h2⟩
theorem Qgn{ay al:Option Addr}{cy cl n Ky Kh bh:Nat}{ts:List RT}{ss:List T4}{vs:List V4}{y:Nat->Rat}{h:Rat}{w:World}(hg:Glob w)(hr:ARow T4.cells w al cl ss)(hl:ss.length=n)(hv:StonesV ss vs)(h0:(archF vs).1=0)(hp:PRow w ay ts)(hty:∀(i:Nat) (t:RT),ts[i]?=some t->t.2.1=y i/\t.2.2=Ky)(htl:ts.length=n)(hh:RF h Kh (.pointer (some ⟨bh,0,none⟩)) w)(hk:Ky<=4000000000)(hkh:Kh<=4000000000):
 Calls prog 21 #[.slice al n cl,.pointer (some ⟨bh,0,none⟩),.slice ay n cy] w fun e w'=>(∃b,e=.returned (.bool b)/\(b=true↔stdTo vs h y n n))/\Below w.heap.size w w':=by
 obtain⟨hn2,hn10⟩:=Qat h0;have hvl:=hv.len;rw[hvl,hl] at hn2 hn10;obtain⟨B,hB⟩:=nm w.heap.size;obtain⟨V,hV⟩:=nm ((w.alloc (.cells #[.slice al n cl] 22)).alloc (.cells #[.slice ay n cy] 51));have hbv:Below w.heap.size w V:=by rw[<-hV];exact Below.new2 w _ _
 have HSV:O (StW V (B+1) B ay al cy cl n Ky ts ss y):=Hi ⟨hg.below hbv,by rw[<-hV,<-hB];exact SB.new2 w _ _ _ _,by rw[<-hV,<-hB];exact(SB.new w _ _).alloc _,hp.below hbv,hty,htl,hr.below hbv,hl⟩;obtain⟨HHV,HBV,HV⟩:=Ib (hh.below hbv) hbv hv;have HR:=Hi (Qa5 h0).1;obtain⟨HVL,HSL,HVE,HBE⟩:=Ic (hvl.trans hl) hl hV hB;have c3:=HSV.o.s3.cell 0;simp only[List.getElem?_toArray,List.getElem?_cons_zero] at c3;rw[<-hV,<-hB] at c3;clear hg hr hl hv h0 hp hty htl hh hV hB hbv hvl;go_enter func21,ntmps21;go_wp2_with fail;rw[HVE.o];simp only[HBE.o];clear c3;go_loopw [12] (fun iv wr=>∃k:Nat,k<=n/\iv=.int .i64 k/\stdTo vs h y n k/\Below V.heap.size V wr) (fun iv _=>n - (intOf iv).toNat)
 case atStart=>exact⟨0,Nat.zero_le _,rfl,fun i hi=>by omega,Below.refl _ _⟩
 case round=>
  obtain⟨k,hkn',rfl,hst,hbr⟩:=hrel;obtain⟨HST,HBR,HBW⟩:=Ib hst hbr (HBV.o.trans (hbr.mono HBV.o.size));clear hst hbr;by_cases hkn:k<n
  .
   obtain⟨s,hs⟩:∃s,ss[k]?=some s:=⟨ss[k]'(by have:=HSL.o;omega),gE _⟩;obtain⟨v,hv⟩:∃v,vs[k]?=some v:=⟨vs[k]'(by have:=HVL.o;omega),gE _⟩;have HSK:=Hi (HV.o.each k s v hs hv);have hlo:loF vs k=v.2.2.1:=by simp[loF,hv]
   have hhi:hiF vs k=v.2.2.2:=by simp[hiF,hv]
   have hwt:wtF vs k=v.2.1:=by simp[wtF,hv]
   have HLH:=Hi (And.intro hlo (And.intro hhi hwt));have hsr:=HSV.o.below HBR.o;obtain⟨lb,lo,rfl,hlb,d0,d1,d2,d3⟩:=hsr.rl.stone hs;obtain⟨b8,hb8⟩:∃b,wr.heap.size=b:=⟨_,rfl⟩;obtain⟨Z,hZ⟩:=nm (wr.alloc (.cells #[.string s.a,.string s.w,.string s.l,.string s.h] 28));have hbz:Below wr.heap.size wr Z:=by rw[<-hZ];exact(Below.refl _ _).alloc lZ _
   have hs8:SB Z b8 28 #[.string s.a,.string s.w,.string s.l,.string s.h]:=by rw[<-hZ,<-hb8];exact SB.new wr _ _
   obtain⟨Y,hY⟩:=nm Z.drew;have hzy:Below Z.heap.size Z Y:=by rw[<-hY];exact(Below.refl _ _).drew
   have hby:=hbz.trans (hzy.mono hbz.size);obtain⟨HS,H8,HVY⟩:=Ib (hsr.below hby) (hs8.below hzy hs8.lt) (HBR.o.trans (hby.mono HBR.o.size));obtain⟨yb,yo,qk,rfl,hyb,yk,fk⟩:=HS.o.num hkn;obtain⟨HYK,FK⟩:=Ia yk fk;have q1:((k:Int)<(n:Int)):=by omega
   obtain⟨HZE,HYE,HB8,HSS,HVK⟩:=Id hZ hY hb8 hs hv;clear hsr hbz hs8 hzy hby yk fk hs hv hlo hhi hwt hZ hY hb8;go_wp2_with fail;rw[HZE.o];simp only[HB8.o];clear d0 d1 d2 d3;obtain⟨C,hC⟩:=nm (cmpQ (y k) v.2.2.1);obtain⟨HCE,HCL⟩:=Ia hC (Qao (y k) v.2.2.1);rw[hC] at HCL;clear hC;by_cases hc:C<0
   .
    have e1:decide (C<0)=true:=decide_eq_true hc;have HNO:O (¬stdTo vs h y n n):=Hi (fun hs=>by
     have h1:=(hs k hkn).1.1;rw[HLH.o.1] at h1
     exact absurd (HCL.o.1 hc) (Rat.not_lt.2 h1))
    clear hc;refine RegG.bg 20 (fun j=>some (17+j)) ?_;rw[HYE.o];refine RegG.pu (c:=?_) [] (fun w hb=>?_) ?_;rotate_left
    .
     intro K hK;have c5:=((HS.o.below hb).s5).cell 0;simp only[List.getElem?_toArray,List.getElem?_cons_zero] at c5;go_simp;exact hK
    refine RegG.pu (c:=?_) [] (fun w hb=>?_) ?_;rotate_left
    .
     intro K hK;go_simp;exact hK
    refine RegG.pu (c:=?_) [0,1] (fun w hb=>?_) ?_;rotate_left
    .
     intro K hK;go_simp;exact hK
    refine RegG.pu (c:=?_) [2] (fun w hb=>?_) ?_;rotate_left
    .
     intro K hK;have cy:=(Below.cell hb (p:=⟨yb,yo+k,none⟩) hyb).trans HYK.o;go_simp;exact hK
    refine RegG.pu (c:=?_) [] (fun w hb=>?_) ?_;rotate_left
    .
     intro K hK;go_simp;exact hK
    refine RegG.pu (c:=?_) [4] (fun w hb=>?_) ?_;rotate_left
    .
     intro K hK;have hs8:=H8.o.below hb H8.o.lt;have c1:=hs8.cell 1;have c2:=hs8.cell 2;have c3:=hs8.cell 3;simp only[List.getElem?_toArray,List.getElem?_cons_zero,List.getElem?_cons_succ] at c1 c2 c3;clear hs8;go_simp;exact hK
    refine RegG.ca (φ:=RF v.2.2.1 4194400) [5] (RF.stays _ _) (fun w hb=>?_) ?_
    .
     intro K hK;go_simp;exact Makes.use (RF.of (HS.o.below hb).g HSK.o.l HSK.o.zl.1 HSK.o.zl.2 (by decide)) hK
    refine RegG.ca (φ:=Is (.int .i64 C)) [3,6] (Is.stays _) (fun w hb=>?_) ?_
    .
     intro v6 h6;intro K hK;go_simp;exact Makes.use (HCE.o ▸ RF.cmp (FK.o.below hb) h6 (by omega)) hK
    refine RegG.pu (c:=?_) [7] (fun w hb=>?_) ?_;rotate_left
    .
     intro K hK;go_simp;exact hK
    refine RegG.pu (c:=?_) [8] (fun w hb=>?_) ?_;rotate_left
    .
     intro K hK;go_simp;exact hK
    refine RegG.pu (c:=?_) [9] (fun w hb=>?_) ?_;rotate_left
    .
     intro K hK;go_simp;exact hK
    refine RegG.pu (c:=?_) [9] (fun w hb=>?_) ?_;rotate_left
    .
     intro K hK;go_simp;exact hK
    refine RegG.pu (c:=?_) [9,10,11] (fun w hb=>?_) ?_;rotate_left
    .
     intro K hK;go_simp;exact hK
    refine RegG.pu (c:=?_) [9,12] (fun w hb=>?_) ?_;rotate_left
    .
     intro K hK;go_simp;exact hK
    refine RegG.pu (c:=?_) [9] (fun w hb=>?_) ?_;rotate_left
    .
     intro K hK;go_simp;exact hK
    refine RegG.pu (c:=?_) [9,14] (fun w hb=>?_) ?_;rotate_left
    .
     intro K hK;go_simp;exact hK
    refine RegG.pu (c:=?_) [9,15] (fun w hb=>?_) ?_;rotate_left
    .
     intro K hK;go_simp;exact hK
    refine RegG.pu (c:=?_) [9,13,16] (fun w hb=>?_) ?_;rotate_left
    .
     intro K hK;go_simp;exact hK
    refine RegG.pu (c:=?_) [9,17] (fun w hb=>?_) ?_;rotate_left
    .
     intro K hK;go_simp;exact hK
    refine RegG.pu (c:=?_) [9,18] (fun w hb=>?_) ?_;rotate_left
    .
     intro K hK;go_simp;exact hK
    refine RegG.fi (fun u9 hb=>?_);intro v6 _;have HB9:=Hi (HBV.o.trans ((HVY.o.trans (hb.mono HVY.o.size)).mono HBV.o.size));clear hb;go_wp2;go_ret;exact⟨⟨false,rfl,by simp[HNO.o]⟩,HB9.o⟩
   .
    have e1:decide (C<0)=false:=decide_eq_false hc;have HGE:O (loF vs k<=y k):=Hi (by rw[HLH.o.1];exact Rat.not_lt.1 (fun h=>hc (HCL.o.2 h)));obtain⟨D,hD⟩:=nm (cmpQ (y k) v.2.2.2);obtain⟨HDE,HDG⟩:=Ia hD (Qaz (y k) v.2.2.2);rw[hD] at HDG;clear hc hD HCL;refine RegG.bg 20 (fun j=>some (17+j)) ?_;rw[HYE.o];refine RegG.pu (c:=?_) [] (fun w hb=>?_) ?_;rotate_left
    .
     intro K hK;have c5:=((HS.o.below hb).s5).cell 0;simp only[List.getElem?_toArray,List.getElem?_cons_zero] at c5;go_simp;exact hK
    refine RegG.pu (c:=?_) [] (fun w hb=>?_) ?_;rotate_left
    .
     intro K hK;go_simp;exact hK
    refine RegG.pu (c:=?_) [0,1] (fun w hb=>?_) ?_;rotate_left
    .
     intro K hK;go_simp;exact hK
    refine RegG.pu (c:=?_) [2] (fun w hb=>?_) ?_;rotate_left
    .
     intro K hK;have cy:=(Below.cell hb (p:=⟨yb,yo+k,none⟩) hyb).trans HYK.o;go_simp;exact hK
    refine RegG.pu (c:=?_) [] (fun w hb=>?_) ?_;rotate_left
    .
     intro K hK;go_simp;exact hK
    refine RegG.pu (c:=?_) [4] (fun w hb=>?_) ?_;rotate_left
    .
     intro K hK;have hs8:=H8.o.below hb H8.o.lt;have c1:=hs8.cell 1;have c2:=hs8.cell 2;have c3:=hs8.cell 3;simp only[List.getElem?_toArray,List.getElem?_cons_zero,List.getElem?_cons_succ] at c1 c2 c3;clear hs8;go_simp;exact hK
    refine RegG.ca (φ:=RF v.2.2.1 4194400) [5] (RF.stays _ _) (fun w hb=>?_) ?_
    .
     intro K hK;go_simp;exact Makes.use (RF.of (HS.o.below hb).g HSK.o.l HSK.o.zl.1 HSK.o.zl.2 (by decide)) hK
    refine RegG.ca (φ:=Is (.int .i64 C)) [3,6] (Is.stays _) (fun w hb=>?_) ?_
    .
     intro v6 h6;intro K hK;go_simp;exact Makes.use (HCE.o ▸ RF.cmp (FK.o.below hb) h6 (by omega)) hK
    refine RegG.pu (c:=?_) [7] (fun w hb=>?_) ?_;rotate_left
    .
     intro K hK;go_simp;exact hK
    refine RegG.pu (c:=?_) [8] (fun w hb=>?_) ?_;rotate_left
    .
     intro K hK;go_simp;exact hK
    refine RegG.pu (c:=?_) [9] (fun w hb=>?_) ?_;rotate_left
    .
     intro K hK;have c5:=((HS.o.below hb).s5).cell 0;simp only[List.getElem?_toArray,List.getElem?_cons_zero] at c5;go_simp;exact hK
    refine RegG.pu (c:=?_) [9] (fun w hb=>?_) ?_;rotate_left
    .
     intro K hK;go_simp;exact hK
    refine RegG.pu (c:=?_) [9,10,11] (fun w hb=>?_) ?_;rotate_left
    .
     intro K hK;go_simp;exact hK
    refine RegG.pu (c:=?_) [9,12] (fun w hb=>?_) ?_;rotate_left
    .
     intro K hK;have cy:=(Below.cell hb (p:=⟨yb,yo+k,none⟩) hyb).trans HYK.o;go_simp;exact hK
    refine RegG.pu (c:=?_) [9] (fun w hb=>?_) ?_;rotate_left
    .
     intro K hK;go_simp;exact hK
    refine RegG.pu (c:=?_) [9,14] (fun w hb=>?_) ?_;rotate_left
    .
     intro K hK;have hs8:=H8.o.below hb H8.o.lt;have c1:=hs8.cell 1;have c2:=hs8.cell 2;have c3:=hs8.cell 3;simp only[List.getElem?_toArray,List.getElem?_cons_zero,List.getElem?_cons_succ] at c1 c2 c3;clear hs8;go_simp;exact hK
    refine RegG.ca (φ:=RF v.2.2.2 4194400) [9,15] (RF.stays _ _) (fun w hb=>?_) ?_
    .
     intro K hK;go_simp;exact Makes.use (RF.of (HS.o.below hb).g HSK.o.h HSK.o.zh.1 HSK.o.zh.2 (by decide)) hK
    refine RegG.ca (φ:=Is (.int .i64 D)) [9,13,16] (Is.stays _) (fun w hb=>?_) ?_
    .
     intro v16 h16;intro K hK;go_simp;exact Makes.use (HDE.o ▸ RF.cmp (FK.o.below hb) h16 (by omega)) hK
    refine RegG.pu (c:=?_) [9,17] (fun w hb=>?_) ?_;rotate_left
    .
     intro K hK;go_simp;exact hK
    refine RegG.pu (c:=?_) [9,18] (fun w hb=>?_) ?_;rotate_left
    .
     intro K hK;go_simp;exact hK
    refine RegG.fi (fun u9 hb=>?_);intro v6 _ v16 _;have HVU:=Hi (HVY.o.trans (hb.mono HVY.o.size));obtain⟨HB9,HSU,H8U⟩:=Ib (HBV.o.trans (HVU.o.mono HBV.o.size)) (HS.o.below hb) (H8.o.below hb H8.o.lt);clear hb HS H8 FK HYK HVY;by_cases hd:0<D
    .
     have e2:decide (0<D)=true:=decide_eq_true hd;have HNO:O (¬stdTo vs h y n n):=Hi (fun hs=>by
      have h1:=(hs k hkn).1.2;rw[HLH.o.2.1] at h1
      exact absurd (HDG.o.1 hd) (Rat.not_lt.2 h1))
     clear hd;simp only[e2];go_wp2;go_ret;exact⟨⟨false,rfl,by simp[HNO.o]⟩,HB9.o⟩
    .
     have e2:decide (0<D)=false:=decide_eq_false hd;have HLE:O (y k<=hiF vs k):=Hi (by rw[HLH.o.2.1];exact Rat.not_lt.1 (fun h=>hd (HDG.o.2 h)));clear hd;simp only[e2];have c3:=HSU.o.s3.cell 0;simp only[List.getElem?_toArray,List.getElem?_cons_zero] at c3;by_cases hk0:k=0
     .
      subst hk0;go_wp2;go_roundw
      case rel=>exact⟨1,by omega,by go_num,Qeg HST.o ⟨HGE.o,HLE.o⟩ (fun h=>by omega),HVU.o⟩
      case measure=>simp[intOf];omega
     .
      have e3:((k:Int) == 0)=false:=by rw[beq_eq_false_iff_ne];omega
      have e3':¬(k:Int)=0:=by omega
      obtain⟨n',hn'⟩:∃n',n=n'+1:=⟨n - 1,by omega⟩;have e4:(n:Int) - 1=(n':Int):=by omega
      have w4:IntKind.i64.wrap (n':Int)=(n':Int):=wrap_i64 _ (by omega) (by omega);by_cases hkl:k=n'
      .
       have e5:((k:Int) == (n':Int))=true:=by rw[beq_iff_eq];omega
       obtain⟨HKL,HNN⟩:=Ia hkl hn';clear hkl hn';go_wp2;go_roundw
       case rel=>exact⟨k+1,by omega,by go_num,Qeg HST.o ⟨HGE.o,HLE.o⟩ (fun _ h=>by have:=HKL.o;have:=HNN.o;omega),HVU.o⟩
       case measure=>simp[intOf];omega
      .
       have e5:((k:Int) == (n':Int))=false:=by rw[beq_eq_false_iff_ne];omega
       have e5':¬(k:Int)=(n':Int):=by omega
       have hk1:k+1<n:=by omega
       clear hkl hn';obtain⟨k',hk'⟩:∃k',k=k'+1:=⟨k - 1,by omega⟩;obtain⟨k2,hk2⟩:∃k2,k2=k+1:=⟨_,rfl⟩;have e6:(k:Int) - 1=(k':Int):=by omega
       have e7:(k:Int)+1=(k2:Int):=by omega
       have w6:IntKind.i64.wrap (k':Int)=(k':Int):=wrap_i64 _ (by omega) (by omega);have w7:IntKind.i64.wrap (k2:Int)=(k2:Int):=wrap_i64 _ (by omega) (by omega);obtain⟨Y2,hY2⟩:∃Y,u9.drew=Y:=⟨_,rfl⟩;have hb2:Below u9.heap.size u9 Y2:=by rw[<-hY2];exact(Below.refl _ _).drew
       obtain⟨HS,H8,HVY2⟩:=Ib (HSU.o.below hb2) (H8U.o.below hb2 H8U.o.lt) (HVU.o.trans (hb2.mono HVU.o.size));obtain⟨HBY2,HHY⟩:=Ia (HBV.o.trans (HVY2.o.mono HBV.o.size)) (HHV.o.below HVY2.o);obtain⟨va,hva⟩:∃v,vs[k']?=some v:=⟨vs[k']'(by have:=HVL.o;omega),gE _⟩;obtain⟨vb,hvb⟩:∃v,vs[k2]?=some v:=⟨vs[k2]'(by have:=HVL.o;omega),gE _⟩;have ra:=HR.o k' k (by omega) (by have:=HVL.o;omega);have rb:=HR.o k k2 (by omega) (by have:=HVL.o;omega);have aa:atF vs k'=va.1:=by simp[atF,hva]
       have ab:atF vs k2=vb.1:=by simp[atF,hvb]
       have ak:atF vs k=v.1:=by have:=HVK.o;simp[atF,this]
       rw[aa,ak] at ra;rw[ak,ab] at rb;have HS1:O (∀u,Below Y2.heap.size Y2 u->Calls prog 60 #[.int .i64 k',.int .i64 k,.pointer (some ⟨B+1,0,none⟩),.pointer (some ⟨B,0,none⟩)] u (Makes u (RF ((y k - y k') / (v.1 - va.1)) (Ky+Ky+1+(4194400+4194400+1))))):=Hi (fun u hu=>Qgm (HS.o.below hu) HV.o (by omega) (by omega) hn10 hva HVK.o (by grind) hk);have HS2:O (∀u,Below Y2.heap.size Y2 u->Calls prog 60 #[.int .i64 k,.int .i64 k2,.pointer (some ⟨B+1,0,none⟩),.pointer (some ⟨B,0,none⟩)] u (Makes u (RF ((y k2 - y k) / (vb.1 - v.1)) (Ky+Ky+1+(4194400+4194400+1))))):=Hi (fun u hu=>Qgm (HS.o.below hu) HV.o (by omega) (by omega) hn10 HVK.o hvb (by grind) hk);have HEQ:O (slpY vs y (k - 1) k - slpY vs y k (k+1)=(y k - y k') / (v.1 - va.1) - (y k2 - y k) / (vb.1 - v.1)):=Hi (by
        unfold slpY
        rw[show k - 1=k' by omega,<-hk2,aa,ak,ab])
       obtain⟨Q,hQ⟩:=nm (cmpQ ((y k - y k') / (v.1 - va.1) - (y k2 - y k) / (vb.1 - v.1)) (h*v.2.1));obtain⟨HQE,HQ0⟩:=Ia hQ (Qn8 ((y k - y k') / (v.1 - va.1) - (y k2 - y k) / (vb.1 - v.1)) (h*v.2.1));rw[hQ] at HQ0;obtain⟨HYE2,HK2⟩:=Ia hY2 hk2;clear hk' hk2 hY2 hb2 hva hvb ra rb aa ab ak hQ HSU H8U;go_wp2_with fail;refine RegG.bg 18 (fun j=>some (47+j)) ?_;rw[HYE2.o];refine RegG.pu (c:=?_) [] (fun w hb=>?_) ?_;rotate_left
       .
        intro K hK;go_simp;exact hK
       refine RegG.pu (c:=?_) [] (fun w hb=>?_) ?_;rotate_left
       .
        intro K hK;go_simp;exact hK
       refine RegG.pu (c:=?_) [1] (fun w hb=>?_) ?_;rotate_left
       .
        intro K hK;go_simp;exact hK
       refine RegG.pu (c:=?_) [] (fun w hb=>?_) ?_;rotate_left
       .
        intro K hK;go_simp;exact hK
       refine RegG.ca (φ:=RF ((y k - y k') / (v.1 - va.1)) (Ky+Ky+1+(4194400+4194400+1))) [0,2,3] (RF.stays _ _) (fun w hb=>?_) ?_
       .
        intro K hK;go_simp;exact Makes.use (HS1.o _ hb) hK
       refine RegG.pu (c:=?_) [] (fun w hb=>?_) ?_;rotate_left
       .
        intro K hK;go_simp;exact hK
       refine RegG.pu (c:=?_) [] (fun w hb=>?_) ?_;rotate_left
       .
        intro K hK;go_simp;exact hK
       refine RegG.pu (c:=?_) [] (fun w hb=>?_) ?_;rotate_left
       .
        intro K hK;go_simp;exact hK
       refine RegG.pu (c:=?_) [7] (fun w hb=>?_) ?_;rotate_left
       .
        intro K hK;go_simp;exact hK
       refine RegG.ca (φ:=RF ((y k2 - y k) / (vb.1 - v.1)) (Ky+Ky+1+(4194400+4194400+1))) [5,6,8] (RF.stays _ _) (fun w hb=>?_) ?_
       .
        intro K hK;go_simp;exact Makes.use (HS2.o _ hb) hK
       refine RegG.ca (φ:=RF ((y k - y k') / (v.1 - va.1) - (y k2 - y k) / (vb.1 - v.1)) (Ky+Ky+1+(4194400+4194400+1)+(Ky+Ky+1+(4194400+4194400+1))+1)) [4,9] (RF.stays _ _) (fun w hb=>?_) ?_
       .
        intro v4 h4 v9 h9;intro K hK;go_simp;exact Makes.use (RF.sub h4 h9 (by omega)) hK
       refine RegG.pu (c:=?_) [] (fun w hb=>?_) ?_;rotate_left
       .
        intro K hK;go_simp;exact hK
       refine RegG.pu (c:=?_) [] (fun w hb=>?_) ?_;rotate_left
       .
        intro K hK;go_simp;exact hK
       refine RegG.pu (c:=?_) [12] (fun w hb=>?_) ?_;rotate_left
       .
        intro K hK;have hs8:=H8.o.below hb H8.o.lt;have c1:=hs8.cell 1;have c2:=hs8.cell 2;have c3:=hs8.cell 3;simp only[List.getElem?_toArray,List.getElem?_cons_zero,List.getElem?_cons_succ] at c1 c2 c3;clear hs8;go_simp;exact hK
       refine RegG.ca (φ:=RF v.2.1 4194400) [13] (RF.stays _ _) (fun w hb=>?_) ?_
       .
        intro K hK;go_simp;exact Makes.use (RF.of (HS.o.below hb).g HSK.o.w HSK.o.zw.1 HSK.o.zw.2 (by decide)) hK
       refine RegG.ca (φ:=RF (h*v.2.1) (Kh+4194400)) [11,14] (RF.stays _ _) (fun w hb=>?_) ?_
       .
        intro v14 h14;intro K hK;go_simp;exact Makes.use (RF.mul (HHY.o.below hb) h14 (by omega)) hK
       refine RegG.ca (φ:=Is (.int .i64 Q)) [10,15] (Is.stays _) (fun w hb=>?_) ?_
       .
        intro v10 h10 v15 h15;intro K hK;go_simp;exact Makes.use (HQE.o ▸ RF.cmp h10 h15 (by omega)) hK
       refine RegG.pu (c:=?_) [16] (fun w hb=>?_) ?_;rotate_left
       .
        intro K hK;go_simp;exact hK
       refine RegG.fi (fun u9 hb=>?_);intro v4 _ v9 _ v10 _ v14 _ v15 _;have HVF:=Hi (HVY2.o.trans (hb.mono HVY2.o.size));have HBF:=Hi (HBV.o.trans (HVF.o.mono HBV.o.size));clear hb;by_cases hq:Q=0
       .
        have e8:(Q != 0)=false:=by simp[hq]
        have HOK:O (slpY vs y (k - 1) k - slpY vs y k (k+1)=h*wtF vs k):=Hi (by rw[HEQ.o,HLH.o.2.2];exact HQ0.o.1 hq);clear hq;simp only[e8];go_wp2;go_roundw
        case rel=>exact⟨k+1,by omega,by go_num,Qeg HST.o ⟨HGE.o,HLE.o⟩ (fun _ _=>HOK.o),HVF.o⟩
        case measure=>simp[intOf];omega
       .
        have e8:(Q != 0)=true:=by simpa using hq
        have HNO:O (¬stdTo vs h y n n):=Hi (fun hs=>by
         have h1:=(hs k hkn).2 (by omega) hk1;rw[HEQ.o,HLH.o.2.2] at h1
         exact hq (HQ0.o.2 h1))
        clear hq;simp only[e8];go_wp2;go_ret;exact⟨⟨false,rfl,by simp[HNO.o]⟩,HBF.o⟩
  .
   obtain rfl:k=n:=by omega
   go_wp2;go_ret;exact⟨⟨true,rfl,by simp[HST.o]⟩,HBW.o⟩
end Go.Proofs.YtldjeecnapgakaaGreatDoor
