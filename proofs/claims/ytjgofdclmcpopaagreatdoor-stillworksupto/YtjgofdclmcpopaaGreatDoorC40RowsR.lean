import Derived.Test.YtjgofdclmcpopaaGreatDoorC39RowsL
namespace Go.Proofs.YtjgofdclmcpopaaGreatDoor
open Go.RowKit
open Go.Proofs.Tryz
set_option linter.unusedSimpArgs false
set_option linter.unusedVariables false
set_option maxHeartbeats 8000000
set_option maxRecDepth 1000000
theorem Qt8(w:World)(x z:Value)(a:Option Addr)(n c:Nat):(Instr.field 252 (.agg #[x,.slice a n c,z]) 1).run prog w=.ok (.slice a n c) w:=by kernel_rfl
theorem Qt9(a:Option Addr)(cap W K:Nat)(rs:List MR)(w:World)(I:Nat->List Vec->List Vec->List Nat->Prop)(hI:Going K I)(h:ARow MR.cells w a cap rs)(hok:Oks w W K rs)(hl:rs.length<=1000)(hW:W<=1000)(hK0:0<K)(hK:4*K+1<68719476000)(h0:I 0 (rs.map MR.q) [] []):
 Calls prog 116 #[.slice a rs.length cap,.int .i64 W] w fun e w'=>(∃(L S:List Vec) (hs:List Nat),e=.returned (.int .i64 (S.length:Nat))/\S.length<=W/\I W L S hs)/\Below w.heap.size w w':=by
 have HST:=Hi (Qgk a cap W K W rs w I hI h hok hl hW lZ hK0 hK h0);clear hI h hok h0;go_enter func116,ntmps116;go_wp2_with fail;go_fit HST.o;rintro e w1 ⟨⟨L,S,hs,sv,hv,rfl,hi,hSl,hhl,hgs,hgh,hoS⟩,hb1⟩;obtain⟨b1,c1,rfl,_,_,_⟩:=hgs.slice;obtain⟨b2,c2,rfl,_,_,_⟩:=hgh.slice;obtain⟨HJ,HB⟩:=Ia hi hb1;have hfd:=Qt8 w1 (.int .i64 (W:Nat)) (.slice b2 hs.length c2) b1 S.length c1;clear hi hgs hgh hoS hb1;go_wp2;go_ret;exact⟨⟨L.map MR.q,S.map MR.q,hs,by rw[List.length_map];rfl,by rw[List.length_map];exact hSl,HJ.o⟩,HB.o⟩
def Solved(W K:Nat)(M:List Vec)(b:List Rat)(w:World)(e:Ending)(w':World):Prop:=
 ((e=.returned (.tuple #[.slice none 0 0,.int .i64 8])/\∀x,¬Sol W M b x)∨
  (e=.returned (.tuple #[.slice none 0 0,.int .i64 9])/\∃x y,Sol W M b x/\Sol W M b y/\∃c,c<W/\x c≠y c)∨
  (∃(g:Nat) (us:List FE),e=.returned (.tuple #[.slice (some ⟨g,0,none⟩) W W,.int .i64 0])/\QBlk w' g us/\us.length=W/\(∀t,t∈ us->t.k<=K)/\∀y,Sol W M b y↔∀(i:Nat) (t:FE),us[i]?=some t->y i=t.q))/\Below w.heap.size w w'
theorem Qua(a a':Option Addr)(cap cap' W K:Nat)(rs:List MR)(ss:List FE)(w:World)(I:Nat->List Vec->List Vec->List Nat->Prop)(hI:Going K I)(h:QMat w a cap W rs)(hk:∀r,r∈ rs->∀t,t∈ r.ts->t.k<=K)(h':QRow w a' cap' ss)(hk':∀t,t∈ ss->t.k<=K)(hss:ss.length=rs.length)(hl:rs.length<=1000)(hW:W+1<=1000)(hK0:0<K)(hK:4*K+1<68719476000)
 (h0:I 0 (List.zipWith (wider W) (rs.map MR.q) (ss.map (·.q))) [] [])
 (hfin:∀L S hs,I (W+1) L S hs->Ech 0 (W+1) S hs/\(∀x,Null (W+1) (List.zipWith (wider W) (rs.map MR.q) (ss.map (·.q))) x↔Null (W+1) S x)/\clnFits K S hs):
 Calls prog 132 #[.slice a rs.length cap,.int .i64 W,.slice a' rs.length cap'] w (Solved W K (rs.map MR.q) (ss.map (·.q)) w):=by
 obtain⟨HJ,HI,H0,HF,HSL⟩:=Id (Qt4 a a' cap cap' W K rs ss w h hk h' hk' hss hl (by omega)) hI h0 hfin hss;clear hI h hk h' hk' h0 hfin hss;go_enter func132,ntmps132;go_wp2_with fail;go_fit HJ.o;rintro e w1 ⟨⟨g,rs',rfl,hl',hsb,hok',hq'⟩,hb1⟩;have hM:rs'.map MR.q=List.zipWith (wider W) (rs.map MR.q) (ss.map (·.q)):=by
  apply List.ext_getElem?;intro i;rw[List.getElem?_zipWith,List.getElem?_map,List.getElem?_map,List.getElem?_map];rcases Nat.lt_or_ge i rs.length with hi|hi
  .
   obtain⟨r,hr⟩:∃r,rs[i]?=some r:=⟨rs[i],gE hi⟩;obtain⟨s,hs⟩:∃s,ss[i]?=some s:=⟨ss[i]'(by have:=HSL.o;omega),gE (by have:=HSL.o;omega)⟩;obtain⟨r',h1,h2⟩:=hq' i r s hr hs;rw[hr,hs,h1];simp[h2]
  . rw[List.getElem?_eq_none (by omega),List.getElem?_eq_none hi]
    rfl
 have hst:=Qgk (some ⟨g,0,none⟩) rs.length (W+1) K (W+1) rs' w1 I HI.o (hsb.arow rfl (by omega)) hok' (by omega) hW lZ hK0 hK (by rw[hM];exact H0.o);rw[hl'] at hst;simp only[Int.natCast_add,Int.natCast_one] at hst;obtain⟨HST,HB1⟩:=Ia hst hb1;clear hst hb1 hsb hok' hq' hl' hM HJ;go_wp2_with fail;go_fit HST.o;rintro e w2 ⟨⟨L,S,hs,sv,hv,rfl,hi,hSl,hhl,hgs,hgh,hoS⟩,hb2⟩;obtain⟨b1,c1,rfl,_,_,_⟩:=hgs.slice;obtain⟨b2,c2,rfl,_,_,_⟩:=hgh.slice;obtain⟨hech,hnull,hcf⟩:=HF.o _ _ _ hi;obtain⟨HE,HN,HCF,HGS,HGH,HOS,HB2⟩:=If hech hnull hcf hgs hgh hoS (HB1.o.trans (hb2.mono HB1.o.size));have hw12:=HB1.o.size;clear hi hgs hgh hoS hb2 hech hnull hcf HST;obtain⟨V,hV⟩:=nm (w2.alloc (.cells #[.int .i64 ((W:Int)+1),.slice b1 S.length c1,.slice b2 hs.length c2] 252))
 have HBV:=Ua hV;have HSV:=Uc hV;have HV:=Hi hV;clear hV;go_wp2_with fail;rw[HV.o];go_fit (Qkv b2 c2 W hs V (HGH.o.below HBV.o).crow (by omega));rintro e w3 ⟨rfl,rfl⟩;have hle:hs.length=S.length:=by have:=HE.o.len;simp at this;omega
 have HLE:=Hi hle;clear hle;obtain⟨x0,x1,x2,-⟩:=zc HSV.o;have HB3:=Hi (HB2.o.trans (HBV.o.mono HB2.o.size));by_cases hw:W∈ hs
 .
  rw[decide_eq_true hw];have HW:=Hi hw;clear hw;go_wp2;go_ret2;exact⟨.inl ⟨rfl,fun x=>Qih HE.o HN.o HW.o x⟩,HB3.o⟩
 .
  rw[decide_eq_false hw];have HW:=Hi hw;clear hw;by_cases hlw:hs.length<W
  .
   have q1:((hs.length:Int)<(W:Int)):=by omega
   go_wp2;go_ret2;exact⟨.inr (.inl ⟨rfl,Qfo HE.o HN.o HW.o hlw⟩),HB3.o⟩
  .
   have q1:¬((hs.length:Int)<(W:Int)):=by omega
   obtain⟨hlW,hall,hsol⟩:=Qfp HE.o HN.o HW.o hlw;obtain⟨HCL,HAL,HSO,HLW⟩:=Ic (Qky w1.heap.size (W+1) K S hs (.slice b1 S.length c1) (.slice b2 hs.length c2) ((W:Int)+1) w3 (HGS.o.below HBV.o) (HGH.o.below HBV.o) (HOS.o.fr (Fr.of_below HBV.o)) HLE.o.symm (fun c hc=>(HE.o.head c hc).2) HCF.o (by omega) (by omega) hK0 hK) hall hsol hlW;clear hall hsol hlW;go_wp2_with fail;go_fit HCL.o;rintro e w4 ⟨rfl,S',hl4,hq4,hcw⟩;have HB4:O (Below w.heap.size w w4):=Hi ⟨hcw.o.1.trans HB3.o.os,hcw.o.2.1.trans HB3.o.tape,hcw.o.2.2.1.trans HB3.o.output,Nat.le_trans HB3.o.size hcw.o.2.2.2,fun k hk=>(hcw.base k (Nat.lt_of_lt_of_le hk HB3.o.size) (fun e=>by have:=(hcw.rows.lt e).1;omega)).trans (HB3.o.block k hk)⟩;have HSV4:O (SB w4 w2.heap.size 252 #[.int .i64 ((W:Int)+1),.slice b1 S.length c1,.slice b2 hs.length c2]):=Hi (by
    have h1:=hcw.base w2.heap.size HSV.o.lt (fun e=>by
     obtain⟨D,d1,_⟩:=(HGS.o.below HBV.o).sb e
     exact HSV.o.unlike d1 row_stairs.symm rfl)
    have h2:=HSV.o;unfold SB at h2 ⊢;rw[h1]
    exact h2)
   obtain⟨HCW,HL4,HQ4⟩:=Ib hcw hl4 hq4;have hmk:=fun w=>Qci W (by omega) w
   obtain⟨MC,hMC⟩:=nm (((List.replicate W FE.zero).flatMap FE.cells).toArray);rw[hMC] at hmk;have HMC:=Hi hMC.symm;obtain⟨V4,hV4⟩:=nm (w4.alloc (.cells MC 128));obtain⟨g5,hg5⟩:=nm w4.heap.size;have HB5:O (Below g5 w4 V4):=Hi (by rw[<-hV4,<-hg5];exact(Below.refl _ _).alloc lZ _);have HQ5:O (QBlk V4 g5 (List.replicate W FE.zero)):=Hi (by rw[<-hV4,<-hg5];exact QBlk.new w4 W MC HMC.o);have y2:∀o,(w4.alloc o).cell? ⟨w2.heap.size,2,none⟩=some (.slice b2 hs.length c2):=fun o=>(HSV4.o.alloc o).cell 2
   have HV4:=Hi hV4;clear hcw hl4 hq4 hMC hV4 x0 x1 x2;go_wp2_with fail;rw[HV4.o]
   try rw[hg5]
   clear y2 hmk;go_loopw [34] (fun i wr=>∃(k:Nat) (us:List FE),k<=hs.length/\i=.int .i64 k/\us.length=W/\QBlk wr g5 us/\(∀(i:Nat) (t:FE),i<k->us[i]?=some t->∃r,S'[i]?=some r/\t.q=r.q W)/\(∀t,t∈ us->t.k<=K)/\Below g5 w4 wr) (fun i _=>hs.length - (intOf i).toNat)
   case atStart=>exact⟨0,_,Nat.zero_le _,rfl,by simp,HQ5.o,fun i t hi=>by omega,fun t ht=>by obtain⟨_,rfl⟩:=List.mem_replicate.1 ht;exact hK0,HB5.o⟩
   case round=>
    obtain⟨k,us,hk,rfl,hul,hqb,hus,hks,hb⟩:=hrel;obtain⟨HU,HQ,HUS,HKS,HB⟩:=Id hul hqb hus hks hb;clear hul hqb hus hks hb;by_cases hlt:k<hs.length
    .
     have hbw:Below w4.heap.size w4 wr:=by rw[hg5];exact HB.o
     have hkW:k<W:=by have:=HLW.o;omega
     obtain⟨r,hr⟩:∃r,S'[k]?=some r:=⟨S'[k]'(by have:=HL4.o;have:=HLE.o;omega),gE (by have:=HL4.o;have:=HLE.o;omega)⟩;obtain⟨hd,hhd⟩:∃hd,hs[k]?=some hd:=⟨hs[k],gE hlt⟩;obtain rfl:=HAL.o k hd hhd;have hcw:=HCW.o.below hbw;have hrok:=hcw.ok r (mO hr);obtain⟨e,he⟩:∃e,r.ts[W]?=some e:=⟨r.ts[W]'(by have:=hrok.len;omega),gE (by have:=hrok.len;omega)⟩;obtain⟨rb,ro,hra,hrb,d0,d1,d2⟩:=hrok.row.at he;have hev:=hrok.row.get he;have hek:=hrok.sz e (mO he);obtain⟨hb',ho',hbe,hhb,c2'⟩:=hcw.heads.crow.cell hd (.int .i64 (hd:Nat)) (by simp[headsV,hhd]);obtain⟨gb,go,hge,hgb,c1'⟩:=hcw.rows.crow.cell hd r.val (by rw[List.getElem?_map,hr];rfl);rw[MR.val,hra,hrok.len] at c1';obtain⟨-,x1,-⟩:=zc (HSV4.o.below hbw HSV4.o.lt)
     obtain⟨-,-,x2,-⟩:=zc (HSV4.o.below hbw HSV4.o.lt);subst hbe;subst hge;obtain⟨o1,o2,o3⟩:=hev.1.one;have st0:=Qap prog o1;have st1:=Qap prog o2;have st2:=Qap prog o3;obtain⟨y0,hy0⟩:∃y0,us[hd]?=some y0:=⟨us[hd]'(by have:=HU.o;omega),gE (by have:=HU.o;omega)⟩;have f0:=HQ.o.blk.free (hd*3);have f1:=HQ.o.blk.free (hd*3+1);have f2:=HQ.o.blk.free (hd*3+2);obtain⟨gy,oy,hgy,_,t0,t1,t2⟩:=HQ.o.row.at hy0;cases hgy;simp only[Nat.zero_add] at t0 t1 t2;have q2:((hd:Int)<(hs.length:Int)):=by omega
     have q3:((hd:Int)<(W:Int)):=by omega
     have q4:((hd:Int)<(S.length:Int)):=by have:=HLE.o;omega
     have q5:((W:Int)<((W+1:Nat):Int)):=by omega
     obtain⟨HEV,HEQ,HR,HEK⟩:=Ic hev (MR.q_at he) hr hek;clear hbw hr hhd hcw hrok he hra hev hy0 o1 o2 o3 hek;go_wp2_with fail;refine⟨⟨hd+1,us.set hd e,by omega,by go_num,by rw[List.length_set];exact HU.o,HQ.o.set (by have:=HU.o;omega) HEV.o,fun i t hi ht=>?_,fun t ht=>?_,((HB.o.setCell (p:=⟨g5,hd*3,none⟩) lZ _).setCell (p:=⟨g5,hd*3+1,none⟩) lZ _).setCell (p:=⟨g5,hd*3+2,none⟩) lZ _⟩,?_⟩
     .
      rcases Nat.lt_or_ge i hd with h1|h1
      . rw[List.getElem?_set_ne (by omega)] at ht
        exact HUS.o i t h1 ht
      .
       obtain rfl:i=hd:=by omega
       rw[List.getElem?_set_self (by have:=HU.o;omega)] at ht;obtain rfl:=Option.some.inj ht;exact⟨r,HR.o,HEQ.o.symm⟩
     .
      rcases List.mem_or_eq_of_mem_set ht with ht|rfl
      . exact HKS.o t ht
      . exact HEK.o
     . simp[intOf]
       omega
    .
     have hk':k=hs.length:=by omega
     subst hk';go_wp2;go_ret2;refine⟨.inr (.inr ⟨g5,us,rfl,HQ.o,HU.o,HKS.o,fun y=>?_⟩),HB4.o.trans (HB.o.mono (by rw[<-hg5];exact HB4.o.size))⟩;rw[HSO.o y,<-HQ4.o];constructor
     .
      intro hy i t ht;obtain⟨r,h1,h2⟩:=HUS.o i t (by have:=(gZ ht).1;have:=HU.o;have:=HLW.o;omega) ht;rw[h2];exact hy i r.q (by rw[List.getElem?_map,h1];rfl)
     .
      intro hy i v hv;rw[List.getElem?_map] at hv;obtain⟨r,h1,rfl⟩:=Option.map_eq_some_iff.1 hv;have hi:i<us.length:=by have:=(gZ h1).1;have:=HU.o;have:=HLW.o;have:=HL4.o;have:=HLE.o;omega
      obtain⟨r2,k1,k2⟩:=HUS.o i us[i] (by have:=HU.o;have:=HLW.o;omega) (gE hi);obtain rfl:=Option.some.inj (h1.symm.trans k1);rw[hy i us[i] (gE hi),k2]
end Go.Proofs.YtjgofdclmcpopaaGreatDoor
