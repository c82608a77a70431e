/- package rows: Solve. -/
import Derived.Test.YtbbkamnfjejceaaGreatDoorR42RowsL
namespace Go.Proofs.YtbbkamnfjejceaaGreatDoor
open Go.RowKit
set_option linter.unusedVariables false
set_option linter.unusedSimpArgs false
theorem Qrd(w:World)(x z:Value)(a:Option Addr)(n c:Nat):(Instr.field 183 (.agg #[x,.slice a n c,z]) 1).run Tryz.prog w=.ok (.slice a n c) w:=by kernel_rfl
set_option maxRecDepth 100000 in
set_option maxHeartbeats 1000000 in
theorem Qre(a:Option Addr)(cap W K:Nat)(rs:List MR)(w:World)(I:Nat→List Vec→List Vec→List Nat→Prop)(hI:Going K I)(h:ARow MR.cells w a cap rs)(hok:Oks w W K rs)(hl:rs.length≤1000)(hW:W≤1000)(hK0:0<K)(hK:4*K+1<68719476000)(h0:I 0 (rs.map MR.q) [] []):
 Calls Tryz.prog 74 #[.slice a rs.length cap,.int .i64 W] w fun e w'=>(∃(L S:List Vec) (hs:List Nat),e=.returned (.int .i64 (S.length:Nat))∧S.length≤W∧I W L S hs)∧Below w.heap.size w w':=by
 have HST:=Hi (Qi6 a cap W K W rs w I hI h hok hl hW (Nat.le_refl _) hK0 hK h0);clear hI h hok h0;go_enter Tryz.func74,Tryz.ntmps74;go_wp2_with fail;go_fit HST.out;rintro e w1 ⟨⟨L,S,hs,sv,hv,rfl,hi,hSl,hhl,hgs,hgh,hoS⟩,hb1⟩;obtain⟨b1,c1,rfl,_,_,_⟩:=hgs.slice;obtain⟨b2,c2,rfl,_,_,_⟩:=hgh.slice;have HJ:=Hi hi;have HB:=Hi hb1;have hfd:=Qrd w1 (.int .i64 (W:Nat)) (.slice b2 hs.length c2) b1 S.length c1;clear hi hgs hgh hoS hb1;go_wp2;go_ret;exact⟨⟨L.map MR.q,S.map MR.q,hs,by rw[List.length_map];rfl,by rw[List.length_map];exact hSl,HJ.out⟩,HB.out⟩
def Solved(W K:Nat)(M:List Vec)(b:List Rat)(w:World)(e:Ending)(w':World):Prop:=
 ((e=.returned (.tuple #[.slice none 0 0,.int .i64 8])∧∀x,¬Sol W M b x)∨
  (e=.returned (.tuple #[.slice none 0 0,.int .i64 9])∧∃x y,Sol W M b x∧Sol W M b y∧∃c,c<W∧x c≠y c)∨
  (∃(g:Nat) (us:List FE),e=.returned (.tuple #[.slice (some ⟨g,0,none⟩) W W,.int .i64 0])∧QBlk w' g us∧us.length=W∧(∀t,t∈ us→t.k≤K)∧∀y,Sol W M b y↔∀(i:Nat) (t:FE),us[i]?=some t→y i=t.q))∧Below w.heap.size w w'
set_option maxRecDepth 100000 in
set_option maxHeartbeats 4000000 in
theorem Qrf(a a':Option Addr)(cap cap' W K:Nat)(rs:List MR)(ss:List FE)(w:World)(I:Nat→List Vec→List Vec→List Nat→Prop)(hI:Going K I)(h:QMat w a cap W rs)(hk:∀r,r∈ rs→∀t,t∈ r.ts→t.k≤K)(h':QRow w a' cap' ss)(hk':∀t,t∈ ss→t.k≤K)(hss:ss.length=rs.length)(hl:rs.length≤1000)(hW:W+1≤1000)(hK0:0<K)(hK:4*K+1<68719476000)
 (h0:I 0 (List.zipWith (wider W) (rs.map MR.q) (ss.map (·.q))) [] [])
 (hfin:∀L S hs,I (W+1) L S hs→Ech 0 (W+1) S hs∧(∀x,Null (W+1) (List.zipWith (wider W) (rs.map MR.q) (ss.map (·.q))) x↔Null (W+1) S x)∧clnFits K S hs):
 Calls Tryz.prog 122 #[.slice a rs.length cap,.int .i64 W,.slice a' rs.length cap'] w (Solved W K (rs.map MR.q) (ss.map (·.q)) w):=by
 have HJ:=Hi (Qq7 a a' cap cap' W K rs ss w h hk h' hk' hss hl (by omega));have HI:=Hi hI;have H0:=Hi h0;have HF:=Hi hfin;have HSL:=Hi hss;clear hI h hk h' hk' h0 hfin hss;go_enter Tryz.func122,Tryz.ntmps122;go_wp2_with fail;go_fit HJ.out;rintro e w1 ⟨⟨g,rs',rfl,hl',hsb,hok',hq'⟩,hb1⟩;have hM:rs'.map MR.q=List.zipWith (wider W) (rs.map MR.q) (ss.map (·.q)):=by
  apply List.ext_getElem?;intro i;rw[List.getElem?_zipWith,List.getElem?_map,List.getElem?_map,List.getElem?_map];rcases Nat.lt_or_ge i rs.length with hi|hi
  ·
   obtain⟨r,hr⟩:∃r,rs[i]?=some r:=⟨rs[i],List.getElem?_eq_getElem hi⟩;obtain⟨s,hs⟩:∃s,ss[i]?=some s:=⟨ss[i]'(by have:=HSL.out;omega),List.getElem?_eq_getElem (by have:=HSL.out;omega)⟩;obtain⟨r',h1,h2⟩:=hq' i r s hr hs;rw[hr,hs,h1];simp[h2]
  · rw[List.getElem?_eq_none (by omega),List.getElem?_eq_none hi]
    rfl
 have hst:=Qi6 (some ⟨g,0,none⟩) rs.length (W+1) K (W+1) rs' w1 I HI.out (hsb.arow rfl (by omega)) hok' (by omega) hW (Nat.le_refl _) hK0 hK (by rw[hM];exact H0.out);rw[hl'] at hst;simp only[Int.natCast_add,Int.natCast_one] at hst;have HST:=Hi hst;have HB1:=Hi hb1;clear hst hb1 hsb hok' hq' hl' hM HJ;go_wp2_with fail;go_fit HST.out;rintro e w2 ⟨⟨L,S,hs,sv,hv,rfl,hi,hSl,hhl,hgs,hgh,hoS⟩,hb2⟩;obtain⟨b1,c1,rfl,_,_,_⟩:=hgs.slice;obtain⟨b2,c2,rfl,_,_,_⟩:=hgh.slice;obtain⟨hech,hnull,hcf⟩:=HF.out _ _ _ hi;have HE:=Hi hech;have HN:=Hi hnull;have HCF:=Hi hcf;have HGS:=Hi hgs;have HGH:=Hi hgh;have HOS:=Hi hoS;have HB2:=Hi (HB1.out.trans (hb2.mono HB1.out.size));have hw12:=HB1.out.size;clear hi hgs hgh hoS hb2 hech hnull hcf HST;obtain⟨V,hV⟩:∃V,w2.alloc (.cells #[.int .i64 ((W:Int)+1),.slice b1 S.length c1,.slice b2 hs.length c2] 183)=V:=⟨_,rfl⟩
 have HBV:Hid (Below w2.heap.size w2 V):=Hi (by rw[←hV];exact(Below.refl _ _).alloc (Nat.le_refl _) _);have HSV:Hid (SB V w2.heap.size 183 #[.int .i64 ((W:Int)+1),.slice b1 S.length c1,.slice b2 hs.length c2]):=Hi (by rw[←hV];exact SB.new w2 _ _);have HV:=Hi hV;clear hV;go_wp2_with fail;rw[HV.out];go_fit (Qqw b2 c2 W hs V (HGH.out.below HBV.out).crow (by omega));rintro e w3 ⟨rfl,rfl⟩;have hle:hs.length=S.length:=by have:=HE.out.len;simp at this;omega
 have HLE:=Hi hle;clear hle;have x0:w3.cell? ⟨w2.heap.size,0,none⟩=some (.int .i64 ((W:Int)+1)):=HSV.out.cell 0;have x1:w3.cell? ⟨w2.heap.size,1,none⟩=some (.slice b1 S.length c1):=HSV.out.cell 1;have x2:w3.cell? ⟨w2.heap.size,2,none⟩=some (.slice b2 hs.length c2):=HSV.out.cell 2;have HB3:=Hi (HB2.out.trans (HBV.out.mono HB2.out.size));by_cases hw:W∈ hs
 ·
  rw[decide_eq_true hw];have HW:=Hi hw;clear hw;go_wp2;go_ret2;exact⟨.inl ⟨rfl,fun x=>Qmt HE.out HN.out HW.out x⟩,HB3.out⟩
 ·
  rw[decide_eq_false hw];have HW:=Hi hw;clear hw;by_cases hlw:hs.length<W
  ·
   have q1:((hs.length:Int)<(W:Int)):=by omega
   go_wp2;go_ret2;exact⟨.inr (.inl ⟨rfl,Qmu HE.out HN.out HW.out hlw⟩),HB3.out⟩
  ·
   have q1:¬((hs.length:Int)<(W:Int)):=by omega
   obtain⟨hlW,hall,hsol⟩:=Qmv HE.out HN.out HW.out hlw;have HCL:=Hi (Qrc w1.heap.size (W+1) K S hs (.slice b1 S.length c1) (.slice b2 hs.length c2) ((W:Int)+1) w3 (HGS.out.below HBV.out) (HGH.out.below HBV.out) (HOS.out.fr (Fr.of_below HBV.out)) HLE.out.symm (fun c hc=>(HE.out.head c hc).2) HCF.out (by omega) (by omega) hK0 hK);have HAL:=Hi hall;have HSO:=Hi hsol;have HLW:=Hi hlW;clear hall hsol hlW;go_wp2_with fail;go_fit HCL.out;rintro e w4 ⟨rfl,S',hl4,hq4,hcw⟩;have HB4:Hid (Below w.heap.size w w4):=Hi ⟨hcw.out.1.trans HB3.out.os,hcw.out.2.1.trans HB3.out.tape,hcw.out.2.2.1.trans HB3.out.output,Nat.le_trans HB3.out.size hcw.out.2.2.2,fun k hk=>(hcw.base k (Nat.lt_of_lt_of_le hk HB3.out.size) (fun e=>by have:=(hcw.rows.lt e).1;omega)).trans (HB3.out.block k hk)⟩;have HSV4:Hid (SB w4 w2.heap.size 183 #[.int .i64 ((W:Int)+1),.slice b1 S.length c1,.slice b2 hs.length c2]):=Hi (by
    have h1:=hcw.base w2.heap.size HSV.out.lt (fun e=>by
     obtain⟨D,d1,_⟩:=(HGS.out.below HBV.out).sb e
     exact HSV.out.unlike d1 row_stairs.symm rfl)
    have h2:=HSV.out;unfold SB at h2 ⊢;rw[h1]
    exact h2)
   have HCW:=Hi hcw;have HL4:=Hi hl4;have HQ4:=Hi hq4;have hmk:=fun w=>Qcq W (by omega) w
   obtain⟨MC,hMC⟩:∃MC,((List.replicate W FE.zero).flatMap FE.cells).toArray=MC:=⟨_,rfl⟩;rw[hMC] at hmk;have HMC:=Hi hMC.symm;obtain⟨V4,hV4⟩:∃V4,w4.alloc (.cells MC 77)=V4:=⟨_,rfl⟩;obtain⟨g5,hg5⟩:∃g5,w4.heap.size=g5:=⟨_,rfl⟩;have HB5:Hid (Below g5 w4 V4):=Hi (by rw[←hV4,←hg5];exact(Below.refl _ _).alloc (Nat.le_refl _) _);have HQ5:Hid (QBlk V4 g5 (List.replicate W FE.zero)):=Hi (by rw[←hV4,←hg5];exact QBlk.new w4 W MC HMC.out);have y2:∀o,(w4.alloc o).cell? ⟨w2.heap.size,2,none⟩=some (.slice b2 hs.length c2):=fun o=>(HSV4.out.alloc o).cell 2
   have HV4:=Hi hV4;clear hcw hl4 hq4 hMC hV4 x0 x1 x2;go_wp2_with fail;rw[HV4.out]
   try rw[hg5]
   clear y2 hmk;go_loopw [34] (fun i wr=>∃(k:Nat) (us:List FE),k≤hs.length∧i=.int .i64 k∧us.length=W∧QBlk wr g5 us∧(∀(i:Nat) (t:FE),i<k→us[i]?=some t→∃r,S'[i]?=some r∧t.q=r.q W)∧(∀t,t∈ us→t.k≤K)∧Below g5 w4 wr) (fun i _=>hs.length - (intOf i).toNat)
   case atStart=>exact⟨0,_,Nat.zero_le _,rfl,by simp,HQ5.out,fun i t hi=>by omega,fun t ht=>by obtain⟨_,rfl⟩:=List.mem_replicate.1 ht;exact hK0,HB5.out⟩
   case round=>
    obtain⟨k,us,hk,rfl,hul,hqb,hus,hks,hb⟩:=hrel;have HU:=Hi hul;have HQ:=Hi hqb;have HUS:=Hi hus;have HKS:=Hi hks;have HB:=Hi hb;clear hul hqb hus hks hb;by_cases hlt:k<hs.length
    ·
     have hbw:Below w4.heap.size w4 wr:=by rw[hg5];exact HB.out
     have hkW:k<W:=by have:=HLW.out;omega
     obtain⟨r,hr⟩:∃r,S'[k]?=some r:=⟨S'[k]'(by have:=HL4.out;have:=HLE.out;omega),List.getElem?_eq_getElem (by have:=HL4.out;have:=HLE.out;omega)⟩;obtain⟨hd,hhd⟩:∃hd,hs[k]?=some hd:=⟨hs[k],List.getElem?_eq_getElem hlt⟩;obtain rfl:=HAL.out k hd hhd;have hcw:=HCW.out.below hbw;have hrok:=hcw.ok r (List.mem_of_getElem? hr);obtain⟨e,he⟩:∃e,r.ts[W]?=some e:=⟨r.ts[W]'(by have:=hrok.len;omega),List.getElem?_eq_getElem (by have:=hrok.len;omega)⟩;obtain⟨rb,ro,hra,hrb,d0,d1,d2⟩:=hrok.row.at he;have hev:=hrok.row.get he;have hek:=hrok.sz e (List.mem_of_getElem? he);obtain⟨hb',ho',hbe,hhb,c2'⟩:=hcw.heads.crow.cell hd (.int .i64 (hd:Nat)) (by simp[headsV,hhd]);obtain⟨gb,go,hge,hgb,c1'⟩:=hcw.rows.crow.cell hd r.val (by rw[List.getElem?_map,hr];rfl);rw[MR.val,hra,hrok.len] at c1';have x1:wr.cell? ⟨w2.heap.size,1,none⟩=some (.slice b1 S.length c1):=(HSV4.out.below hbw HSV4.out.lt).cell 1
     have x2:wr.cell? ⟨w2.heap.size,2,none⟩=some (.slice b2 hs.length c2):=(HSV4.out.below hbw HSV4.out.lt).cell 2;subst hbe;subst hge;obtain⟨o1,o2,o3⟩:=hev.1.one;have st0:=Qap Tryz.prog o1;have st1:=Qap Tryz.prog o2;have st2:=Qap Tryz.prog o3;obtain⟨y0,hy0⟩:∃y0,us[hd]?=some y0:=⟨us[hd]'(by have:=HU.out;omega),List.getElem?_eq_getElem (by have:=HU.out;omega)⟩;have f0:=HQ.out.blk.free (hd*3);have f1:=HQ.out.blk.free (hd*3+1);have f2:=HQ.out.blk.free (hd*3+2);obtain⟨gy,oy,hgy,_,t0,t1,t2⟩:=HQ.out.row.at hy0;cases hgy;simp only[Nat.zero_add] at t0 t1 t2;have q2:((hd:Int)<(hs.length:Int)):=by omega
     have q3:((hd:Int)<(W:Int)):=by omega
     have q4:((hd:Int)<(S.length:Int)):=by have:=HLE.out;omega
     have q5:((W:Int)<((W+1:Nat):Int)):=by omega
     have HEV:=Hi hev;have HEQ:=Hi (MR.q_at he);have HR:=Hi hr;have HEK:=Hi hek;clear hbw hr hhd hcw hrok he hra hev hy0 o1 o2 o3 hek;go_wp2_with fail;refine⟨⟨hd+1,us.set hd e,by omega,by go_num,by rw[List.length_set];exact HU.out,HQ.out.set (by have:=HU.out;omega) HEV.out,fun i t hi ht=>?_,fun t ht=>?_,((HB.out.setCell (p:=⟨g5,hd*3,none⟩) (Nat.le_refl _) _).setCell (p:=⟨g5,hd*3+1,none⟩) (Nat.le_refl _) _).setCell (p:=⟨g5,hd*3+2,none⟩) (Nat.le_refl _) _⟩,?_⟩
     ·
      rcases Nat.lt_or_ge i hd with h1|h1
      · rw[List.getElem?_set_ne (by omega)] at ht
        exact HUS.out i t h1 ht
      ·
       obtain rfl:i=hd:=by omega
       rw[List.getElem?_set_self (by have:=HU.out;omega)] at ht;obtain rfl:=Option.some.inj ht;exact⟨r,HR.out,HEQ.out.symm⟩
     ·
      rcases List.mem_or_eq_of_mem_set ht with ht|rfl
      · exact HKS.out t ht
      · exact HEK.out
     · simp[intOf]
       omega
    ·
     have hk':k=hs.length:=by omega
     subst hk';go_wp2;go_ret2;refine⟨.inr (.inr ⟨g5,us,rfl,HQ.out,HU.out,HKS.out,fun y=>?_⟩),HB4.out.trans (HB.out.mono (by rw[←hg5];exact HB4.out.size))⟩;rw[HSO.out y,←HQ4.out];constructor
     ·
      intro hy i t ht;obtain⟨r,h1,h2⟩:=HUS.out i t (by have:=(List.getElem?_eq_some_iff.1 ht).1;have:=HU.out;have:=HLW.out;omega) ht;rw[h2];exact hy i r.q (by rw[List.getElem?_map,h1];rfl)
     ·
      intro hy i v hv;rw[List.getElem?_map] at hv;obtain⟨r,h1,rfl⟩:=Option.map_eq_some_iff.1 hv;have hi:i<us.length:=by have:=(List.getElem?_eq_some_iff.1 h1).1;have:=HU.out;have:=HLW.out;have:=HL4.out;have:=HLE.out;omega
      obtain⟨r2,k1,k2⟩:=HUS.out i us[i] (by have:=HU.out;have:=HLW.out;omega) (List.getElem?_eq_getElem hi);obtain rfl:=Option.some.inj (h1.symm.trans k1);rw[hy i us[i] (List.getElem?_eq_getElem hi),k2]
end Go.Proofs.YtbbkamnfjejceaaGreatDoor
