/- package balance: rows of fractions that lie in blocks of their own. -/
import Derived.Test.YtfpcipgoedifaaaGreatDoorK35RowsL
namespace Go.Proofs.YtfpcipgoedifaaaGreatDoor
open Go.RowKit
set_option linter.unusedVariables false
set_option linter.unusedSimpArgs false
def SolvedG(W K:Nat)(M:List Vec)(b:List Rat)(w:World)(e:Ending)(w':World):Prop:=
 ((e=.returned (.tuple #[.slice none 0 0,.int .i64 8])/\∀x,¬Sol W M b x)∨
  (e=.returned (.tuple #[.slice none 0 0,.int .i64 9])/\∃x y,Sol W M b x/\Sol W M b y/\∃c,c<W/\x c≠y c)∨
  (∃(g:Nat) (us:List FE),e=.returned (.tuple #[.slice (some ⟨g,0,none⟩) W W,.int .i64 0])/\w.heap.size<=g/\QBlk w' g us/\us.length=W/\(∀t,t∈ us->t.k<=K)/\∀y,Sol W M b y↔∀(i:Nat) (t:FE),us[i]?=some t->y i=t.q))/\Below w.heap.size w w'
set_option maxRecDepth 100000 in
set_option maxHeartbeats 4000000 in
theorem Qus(a a':Option Addr)(cap cap' W K:Nat)(rs:List MR)(ss:List FE)(w:World)(I:Nat->List Vec->List Vec->List Nat->Prop)(hI:Going K I)(h:QMat w a cap W rs)(hk:∀r,r∈ rs->∀t,t∈ r.ts->t.k<=K)(h':QRow w a' cap' ss)(hk':∀t,t∈ ss->t.k<=K)(hss:ss.length=rs.length)(hl:rs.length<=1000)(hW:W+1<=1000)(hK0:0<K)(hK:4*K+1<68719476000)
 (h0:I 0 (List.zipWith (wider W) (rs.map MR.q) (ss.map (·.q))) [] [])
 (hfin:∀L S hs,I (W+1) L S hs->Ech 0 (W+1) S hs/\(∀x,Null (W+1) (List.zipWith (wider W) (rs.map MR.q) (ss.map (·.q))) x↔Null (W+1) S x)/\clnFits K S hs):
 Calls Tryz.prog 54 #[.slice a rs.length cap,.int .i64 W,.slice a' rs.length cap'] w (SolvedG W K (rs.map MR.q) (ss.map (·.q)) w):=by
 have HJ:=Hi (Qum a a' cap cap' W K rs ss w h hk h' hk' hss hl (by omega));have HI:=Hi hI;have H0:=Hi h0;have HF:=Hi hfin;have HSL:=Hi hss;clear hI h hk h' hk' h0 hfin hss;go_enter Tryz.func54,Tryz.ntmps54;go_wp2_with fail;go_fit HJ.out;rintro e w1 ⟨⟨g,rs',rfl,hl',hsb,hok',hq'⟩,hb1⟩;have hM:rs'.map MR.q=List.zipWith (wider W) (rs.map MR.q) (ss.map (·.q)):=by
  apply List.ext_getElem?;intro i;rw[List.getElem?_zipWith,List.getElem?_map,List.getElem?_map,List.getElem?_map];rcases Nat.lt_or_ge i rs.length with hi|hi
  ·
   obtain⟨r,hr⟩:∃r,rs[i]?=some r:=⟨rs[i],gE hi⟩;obtain⟨s,hs⟩:∃s,ss[i]?=some s:=⟨ss[i]'(by have:=HSL.out;omega),gE (by have:=HSL.out;omega)⟩;obtain⟨r',h1,h2⟩:=hq' i r s hr hs;rw[hr,hs,h1];simp[h2]
  · rw[List.getElem?_eq_none (by omega),List.getElem?_eq_none hi]
    rfl
 have hst:=Qua (some ⟨g,0,none⟩) rs.length (W+1) K (W+1) rs' w1 I HI.out (hsb.arow rfl (by omega)) hok' (by omega) hW lZ hK0 hK (by rw[hM];exact H0.out);rw[hl'] at hst;simp only[Int.natCast_add,Int.natCast_one] at hst;have HST:=Hi hst;have HB1:=Hi hb1;clear hst hb1 hsb hok' hq' hl' hM HJ;go_wp2_with fail;go_fit HST.out;rintro e w2 ⟨⟨L,S,hs,sv,hv,rfl,hi,hSl,hhl,hgs,hgh,hoS⟩,hb2⟩;obtain⟨b1,c1,rfl,_,_,_⟩:=hgs.slice;obtain⟨b2,c2,rfl,_,_,_⟩:=hgh.slice;obtain⟨hech,hnull,hcf⟩:=HF.out _ _ _ hi;have HE:=Hi hech;have HN:=Hi hnull;have HCF:=Hi hcf;have HGS:=Hi hgs;have HGH:=Hi hgh;have HOS:=Hi hoS;have HB2:=Hi (HB1.out.trans (hb2.mono HB1.out.size));have hw12:=HB1.out.size;clear hi hgs hgh hoS hb2 hech hnull hcf HST;obtain⟨V,hV⟩:=nm (w2.alloc (.cells #[.int .i64 ((W:Int)+1),.slice b1 S.length c1,.slice b2 hs.length c2] 144))
 have HBV:Hid (Below w2.heap.size w2 V):=Hi (by rw[<-hV];exact(Below.refl _ _).alloc lZ _);have HSV:Hid (SB V w2.heap.size 144 #[.int .i64 ((W:Int)+1),.slice b1 S.length c1,.slice b2 hs.length c2]):=Hi (by rw[<-hV];exact SB.new w2 _ _);have HV:=Hi hV;clear hV;go_wp2_with fail;rw[HV.out];go_fit (Quc b2 c2 W hs V (HGH.out.below HBV.out).crow (by omega));rintro e w3 ⟨rfl,rfl⟩;have hle:hs.length=S.length:=by have:=HE.out.len;simp at this;omega
 have HLE:=Hi hle;clear hle;obtain⟨x0,x1,x2,-⟩:=zc HSV.out;have HB3:=Hi (HB2.out.trans (HBV.out.mono HB2.out.size));by_cases hw:W∈ hs
 ·
  rw[decide_eq_true hw];have HW:=Hi hw;clear hw;go_wp2;go_ret2;exact⟨.inl ⟨rfl,fun x=>Qiv HE.out HN.out HW.out x⟩,HB3.out⟩
 ·
  rw[decide_eq_false hw];have HW:=Hi hw;clear hw;by_cases hlw:hs.length<W
  ·
   have q1:((hs.length:Int)<(W:Int)):=by omega
   go_wp2;go_ret2;exact⟨.inr (.inl ⟨rfl,Qiw HE.out HN.out HW.out hlw⟩),HB3.out⟩
  ·
   have q1:¬((hs.length:Int)<(W:Int)):=by omega
   obtain⟨hlW,hall,hsol⟩:=Qix HE.out HN.out HW.out hlw;have HCL:=Hi (Qur w1.heap.size (W+1) K S hs (.slice b1 S.length c1) (.slice b2 hs.length c2) ((W:Int)+1) w3 (HGS.out.below HBV.out) (HGH.out.below HBV.out) (HOS.out.fr (Fr.of_below HBV.out)) HLE.out.symm (fun c hc=>(HE.out.head c hc).2) HCF.out (by omega) (by omega) hK0 hK);have HAL:=Hi hall;have HSO:=Hi hsol;have HLW:=Hi hlW;clear hall hsol hlW;go_wp2_with fail;go_fit HCL.out;rintro e w4 ⟨rfl,S',hl4,hq4,hcw⟩;have HB4:Hid (Below w.heap.size w w4):=Hi ⟨hcw.out.1.trans HB3.out.os,hcw.out.2.1.trans HB3.out.tape,hcw.out.2.2.1.trans HB3.out.output,Nat.le_trans HB3.out.size hcw.out.2.2.2,fun k hk=>(hcw.base k (Nat.lt_of_lt_of_le hk HB3.out.size) (fun e=>by have:=(hcw.rows.lt e).1;omega)).trans (HB3.out.block k hk)⟩;have HSV4:Hid (SB w4 w2.heap.size 144 #[.int .i64 ((W:Int)+1),.slice b1 S.length c1,.slice b2 hs.length c2]):=Hi (by
    have h1:=hcw.base w2.heap.size HSV.out.lt (fun e=>by
     obtain⟨D,d1,_⟩:=(HGS.out.below HBV.out).sb e
     exact HSV.out.unlike d1 row_stairs.symm rfl)
    have h2:=HSV.out;unfold SB at h2 ⊢;rw[h1]
    exact h2)
   have HCW:=Hi hcw;have HL4:=Hi hl4;have HQ4:=Hi hq4;have hmk:=fun w=>Qa6 W (by omega) w
   obtain⟨MC,hMC⟩:=nm (((List.replicate W FE.zero).flatMap FE.cells).toArray);rw[hMC] at hmk;have HMC:=Hi hMC.symm;obtain⟨V4,hV4⟩:=nm (w4.alloc (.cells MC 103));obtain⟨g5,hg5⟩:=nm w4.heap.size;have HB5:Hid (Below g5 w4 V4):=Hi (by rw[<-hV4,<-hg5];exact(Below.refl _ _).alloc lZ _);have HQ5:Hid (QBlk V4 g5 (List.replicate W FE.zero)):=Hi (by rw[<-hV4,<-hg5];exact QBlk.new w4 W MC HMC.out);have y2:∀o,(w4.alloc o).cell? ⟨w2.heap.size,2,none⟩=some (.slice b2 hs.length c2):=fun o=>(HSV4.out.alloc o).cell 2
   have HV4:=Hi hV4;clear hcw hl4 hq4 hMC hV4 x0 x1 x2;go_wp2_with fail;rw[HV4.out]
   try rw[hg5]
   clear y2 hmk;go_loopw [34] (fun i wr=>∃(k:Nat) (us:List FE),k<=hs.length/\i=.int .i64 k/\us.length=W/\QBlk wr g5 us/\(∀(i:Nat) (t:FE),i<k->us[i]?=some t->∃r,S'[i]?=some r/\t.q=r.q W)/\(∀t,t∈ us->t.k<=K)/\Below g5 w4 wr) (fun i _=>hs.length - (intOf i).toNat)
   case atStart=>exact⟨0,_,Nat.zero_le _,rfl,by simp,HQ5.out,fun i t hi=>by omega,fun t ht=>by obtain⟨_,rfl⟩:=List.mem_replicate.1 ht;exact hK0,HB5.out⟩
   case round=>
    obtain⟨k,us,hk,rfl,hul,hqb,hus,hks,hb⟩:=hrel;have HU:=Hi hul;have HQ:=Hi hqb;have HUS:=Hi hus;have HKS:=Hi hks;have HB:=Hi hb;clear hul hqb hus hks hb;by_cases hlt:k<hs.length
    ·
     have hbw:Below w4.heap.size w4 wr:=by rw[hg5];exact HB.out
     have hkW:k<W:=by have:=HLW.out;omega
     obtain⟨r,hr⟩:∃r,S'[k]?=some r:=⟨S'[k]'(by have:=HL4.out;have:=HLE.out;omega),gE (by have:=HL4.out;have:=HLE.out;omega)⟩;obtain⟨hd,hhd⟩:∃hd,hs[k]?=some hd:=⟨hs[k],gE hlt⟩;obtain rfl:=HAL.out k hd hhd;have hcw:=HCW.out.below hbw;have hrok:=hcw.ok r (mO hr);obtain⟨e,he⟩:∃e,r.ts[W]?=some e:=⟨r.ts[W]'(by have:=hrok.len;omega),gE (by have:=hrok.len;omega)⟩;obtain⟨rb,ro,hra,hrb,d0,d1,d2⟩:=hrok.row.at he;have hev:=hrok.row.get he;have hek:=hrok.sz e (mO he);obtain⟨hb',ho',hbe,hhb,c2'⟩:=hcw.heads.crow.cell hd (.int .i64 (hd:Nat)) (by simp[headsV,hhd]);obtain⟨gb,go,hge,hgb,c1'⟩:=hcw.rows.crow.cell hd r.val (by rw[List.getElem?_map,hr];rfl);rw[MR.val,hra,hrok.len] at c1';obtain⟨-,x1,-⟩:=zc (HSV4.out.below hbw HSV4.out.lt)
     obtain⟨-,-,x2,-⟩:=zc (HSV4.out.below hbw HSV4.out.lt);subst hbe;subst hge;obtain⟨o1,o2,o3⟩:=hev.1.one;have st0:=Qaa Tryz.prog o1;have st1:=Qaa Tryz.prog o2;have st2:=Qaa Tryz.prog o3;obtain⟨y0,hy0⟩:∃y0,us[hd]?=some y0:=⟨us[hd]'(by have:=HU.out;omega),gE (by have:=HU.out;omega)⟩;have f0:=HQ.out.blk.free (hd*3);have f1:=HQ.out.blk.free (hd*3+1);have f2:=HQ.out.blk.free (hd*3+2);obtain⟨gy,oy,hgy,_,t0,t1,t2⟩:=HQ.out.row.at hy0;cases hgy;simp only[Nat.zero_add] at t0 t1 t2;have q2:((hd:Int)<(hs.length:Int)):=by omega
     have q3:((hd:Int)<(W:Int)):=by omega
     have q4:((hd:Int)<(S.length:Int)):=by have:=HLE.out;omega
     have q5:((W:Int)<((W+1:Nat):Int)):=by omega
     have HEV:=Hi hev;have HEQ:=Hi (MR.q_at he);have HR:=Hi hr;have HEK:=Hi hek;clear hbw hr hhd hcw hrok he hra hev hy0 o1 o2 o3 hek;go_wp2_with fail;refine⟨⟨hd+1,us.set hd e,by omega,by go_num,by rw[List.length_set];exact HU.out,HQ.out.set (by have:=HU.out;omega) HEV.out,fun i t hi ht=>?_,fun t ht=>?_,((HB.out.setCell (p:=⟨g5,hd*3,none⟩) lZ _).setCell (p:=⟨g5,hd*3+1,none⟩) lZ _).setCell (p:=⟨g5,hd*3+2,none⟩) lZ _⟩,?_⟩
     ·
      rcases Nat.lt_or_ge i hd with h1|h1
      · rw[List.getElem?_set_ne (by omega)] at ht
        exact HUS.out i t h1 ht
      ·
       obtain rfl:i=hd:=by omega
       rw[List.getElem?_set_self (by have:=HU.out;omega)] at ht;obtain rfl:=Option.some.inj ht;exact⟨r,HR.out,HEQ.out.symm⟩
     ·
      rcases List.mem_or_eq_of_mem_set ht with ht|rfl
      · exact HKS.out t ht
      · exact HEK.out
     · simp[intOf]
       omega
    ·
     have hk':k=hs.length:=by omega
     subst hk';go_wp2;go_ret2;refine⟨.inr (.inr ⟨g5,us,rfl,by rw[<-hg5];exact HB4.out.size,HQ.out,HU.out,HKS.out,fun y=>?_⟩),HB4.out.trans (HB.out.mono (by rw[<-hg5];exact HB4.out.size))⟩;rw[HSO.out y,<-HQ4.out];constructor
     ·
      intro hy i t ht;obtain⟨r,h1,h2⟩:=HUS.out i t (by have:=(gZ ht).1;have:=HU.out;have:=HLW.out;omega) ht;rw[h2];exact hy i r.q (by rw[List.getElem?_map,h1];rfl)
     ·
      intro hy i v hv;rw[List.getElem?_map] at hv;obtain⟨r,h1,rfl⟩:=Option.map_eq_some_iff.1 hv;have hi:i<us.length:=by have:=(gZ h1).1;have:=HU.out;have:=HLW.out;have:=HL4.out;have:=HLE.out;omega
      obtain⟨r2,k1,k2⟩:=HUS.out i us[i] (by have:=HU.out;have:=HLW.out;omega) (gE hi);obtain rfl:=Option.some.inj (h1.symm.trans k1);rw[hy i us[i] (gE hi),k2]
theorem Qli(w:World)(o:Obj)(t:TypeId)(C:Array Value):SB ((w.alloc o).alloc (.cells C t)) (w.heap.size+1) t C:=by
 have h:=SB.new (w.alloc o) t C;rw[World.size_alloc] at h;exact h
def slRow(W g:Nat):Value:=.slice (some ⟨g,0,none⟩) W W
theorem QBlk.other{u u':World}{g g':Nat}{ts us:List FE}(h:QBlk u g ts)(h':QBlk u g' us)(ho:Only g' u u')(hne:g≠g'):QBlk u' g ts:=
 ⟨h.blk.only ho hne,fun t ht=>⟨(h.ts t ht).1.only ho h'.blk h'.no64,(h.ts t ht).2⟩⟩
def updM(M:Nat->Nat->Rat)(r c:Nat)(q:Rat):Nat->Nat->Rat:=fun r' c'=>if r'=r/\c'=c then q else M r' c'
structure GM (w u:World) (B G W K:Nat) (gs:List Nat) (M:Nat->Nat->Rat):Prop where
 base:Below w.heap.size w u
 out:SB u G 70 (gs.map (slRow W)).toArray
 row:∀(r g:Nat),gs[r]?=some g->∃us,QBlk u g us/\us.length=W/\∀(c:Nat) (t:FE),us[c]?=some t->t.q=M r c/\t.k<=K
 nd:∀(r r' g:Nat),gs[r]?=some g->gs[r']?=some g->r=r'
 ne:∀(r g:Nat),gs[r]?=some g->g≠G
 lo:B<=G
 los:∀(r g:Nat),gs[r]?=some g->B<=g
section
variable {w u:World} {F:Array Value} {B G W K:Nat} {gs:List Nat} {M:Nat->Nat->Rat}
theorem GM.below{u':World}(h:GM w u B G W K gs M)(hb:Below u.heap.size u u'):GM w u' B G W K gs M:=by
 refine⟨h.base.trans (hb.mono h.base.size),h.out.below hb h.out.lt,fun r g hr=>?_,h.nd,h.ne,h.lo,h.los⟩;obtain⟨us,h1,h2⟩:=h.row r g hr;exact⟨us,h1.below hb,h2⟩
theorem GM.congr{M':Nat->Nat->Rat}(h:GM w u B G W K gs M)(he:∀r c,M r c=M' r c):GM w u B G W K gs M':=by
 have:M=M':=funext fun r=>funext fun c=>he r c
 rw[<-this];exact h
theorem GM.cell{r g:Nat}(h:GM w u B G W K gs M)(hr:gs[r]?=some g):u.cell? ⟨G,r,none⟩=some (.slice (some ⟨g,0,none⟩) W W):=by
 rw[h.out.cell];simp[hr,slRow]
theorem GM.lt{r g:Nat}(h:GM w u B G W K gs M)(hr:gs[r]?=some g):g<u.heap.size:=by
 obtain⟨us,h1,_⟩:=h.row r g hr;exact h1.blk.lt
theorem GM.at{r g c:Nat}(h:GM w u B G W K gs M)(hr:gs[r]?=some g)(hc:c<W):∃x y z,u.cell? ⟨g,c*3,none⟩=some x/\u.cell? ⟨g,c*3+1,none⟩=some y/\u.cell? ⟨g,c*3+2,none⟩=some z/\u.frozen? ⟨g,c*3,none⟩=false/\u.frozen? ⟨g,c*3+1,none⟩=false/\u.frozen? ⟨g,c*3+2,none⟩=false:=by
 obtain⟨us,h1,h2,_⟩:=h.row r g hr;obtain⟨t,ht⟩:∃t,us[c]?=some t:=⟨us[c]'(by omega),gE (by omega)⟩;obtain⟨b,o,e,_,d0,d1,d2⟩:=h1.row.at ht;cases e;simp only[Nat.zero_add] at d0 d1 d2;exact⟨_,_,_,d0,d1,d2,h1.blk.free _,h1.blk.free _,h1.blk.free _⟩
abbrev set3(u:World)(g c:Nat)(x y z:Value):World:=((u.setCell ⟨g,c*3,none⟩ x).setCell ⟨g,c*3+1,none⟩ y).setCell ⟨g,c*3+2,none⟩ z
theorem Qgg(u:World)(g c:Nat)(x y z:Value):Only g u (set3 u g c x y z):=(((Only.refl g u).setCell _ _).setCell _ _).setCell _ _
theorem keep3{g b c:Nat}{x y z:Value}{t:TypeId}{C:Array Value}(hs:SB u b t C)(hne:b≠g):SB (set3 u g c x y z) b t C:=hs.only (Qgg u g c x y z) hne
theorem GM.put{r g c:Nat}{x y z:Value}{q:Rat}(h:GM w u B G W K gs M)(hB:w.heap.size<=B)(hr:gs[r]?=some g)(hc:c<W)(hv:FracV u (.agg #[x,y,z]) q)(hf:Fits q K)(hK:0<K):GM w (set3 u g c x y z) B G W K gs (updM M r c q):=by
 obtain⟨us,h1,h2,h3⟩:=h.row r g hr;have ho:=Qgg u g c x y z;have hlo:=h.los r g hr;refine⟨h.base.trans (ho.below (Nat.le_trans hB hlo) h.base.size),h.out.only ho (fun e=>h.ne r g hr e.symm),fun r' g' hr'=>?_,h.nd,h.ne,h.lo,h.los⟩;by_cases e:r'=r
 ·
  subst e;obtain rfl:g=g':=Option.some.inj (hr.symm.trans hr');refine⟨us.set c ⟨x,y,z,q,K⟩,Quy h1 (by omega) hv hf hK,by rw[List.length_set];exact h2,fun c' t ht=>?_⟩;by_cases ec:c'=c
  ·
   subst ec;rw[List.getElem?_set_self (by omega)] at ht;obtain rfl:=Option.some.inj ht;exact⟨by simp[updM],Nat.le_refl _⟩
  ·
   rw[List.getElem?_set_ne (fun e=>ec e.symm)] at ht;obtain⟨h4,h5⟩:=h3 c' t ht;exact⟨by rw[h4];simp[updM,ec],h5⟩
 ·
  obtain⟨us',h1',h2',h3'⟩:=h.row r' g' hr';have hne:g'≠g:=fun eg=>e (h.nd r' r g' hr' (by rw[eg];exact hr))
  refine⟨us',h1'.other h1 ho hne,h2',fun c' t ht=>?_⟩;obtain⟨h4,h5⟩:=h3' c' t ht;exact⟨by rw[h4];simp[updM,e],h5⟩
end
def BlankSays(n m:Nat)(w:World)(e:Ending)(w':World):Prop:=(∃(G:Nat) (gs:List Nat),e=.returned (.slice (some ⟨G,0,none⟩) n n)/\gs.length=n/\w.heap.size<=G/\SB w' G 70 (gs.map (slRow m)).toArray/\(∀(r g:Nat),gs[r]?=some g->QBlk w' g (List.replicate m FE.zero)/\G<g)/\(∀(r r' g:Nat),gs[r]?=some g->gs[r']?=some g->r=r'))/\Below w.heap.size w w'
theorem QBlk.zeroOnly{u u':World}{g g' m:Nat}(h:QBlk u g (List.replicate m FE.zero))(ho:Only g' u u')(hne:g≠g'):QBlk u' g (List.replicate m FE.zero):=by
 refine⟨h.blk.only ho hne,fun t ht=>?_⟩;obtain⟨_,rfl⟩:=List.mem_replicate.1 ht;exact⟨FracV.zero _,Fits.zero,by decide⟩
theorem Qlj(m n k g:Nat)(gs:List Nat)(hk:k<n)(hl:gs.length=k):((gs.map (slRow m)++List.replicate (n - k) (Value.slice none 0 0)).set k (slRow m g))=(gs++ [g]).map (slRow m)++List.replicate (n - (k+1)) (Value.slice none 0 0):=by
 rw[show n - k=(n - (k+1))+1 by omega,List.replicate_succ,List.set_append_right _ _ (by rw[List.length_map];omega),List.length_map,hl,Nat.sub_self,List.set_cons_zero];simp
set_option maxRecDepth 100000 in
set_option maxHeartbeats 4000000 in
theorem Qgh(n m:Nat)(w:World)(hn:n<=1000)(hm:m<=1000):
 Calls Tryz.prog 48 #[.int .i64 n,.int .i64 m] w (BlankSays n m w):=by
 have hmk:=fun w=>Qga n (by omega) w
 have hmr:=fun w=>Qa6 m (by omega) w
 obtain⟨MC,hMC⟩:=nm (((List.replicate n MR.none).flatMap MR.cells).toArray);obtain⟨MD,hMD⟩:=nm (((List.replicate m FE.zero).flatMap FE.cells).toArray);rw[hMC] at hmk;rw[hMD] at hmr;have HMC:Hid (MC=(List.replicate n (Value.slice none 0 0)).toArray):=Hi (by
  rw[<-hMC]
  congr 1
  clear hMC hmk hn
  induction n with
  |zero=>rfl
  |succ n ih=>rw[List.replicate_succ,List.flatMap_cons,ih,List.replicate_succ];rfl)
 have HMD:=Hi hMD.symm;clear hMC hMD;go_enter Tryz.func48,Tryz.ntmps48;go_wp2_with fail;clear hmk;obtain⟨G,hG⟩:=nm w.heap.size;obtain⟨V0,hV0⟩:=nm (w.alloc (.cells MC 70));have HB0:Hid (Below w.heap.size w V0):=Hi (by rw[<-hV0];exact(Below.refl _ _).alloc lZ _);have HS0:Hid (SB V0 G 70 (([]:List Nat).map (slRow m)++List.replicate (n - 0) (Value.slice none 0 0)).toArray):=Hi (by
  rw[<-hV0,<-hG];have:=SB.new w 70 MC;rw[HMC.out] at this ⊢
  exact this)
 try rw[hV0]
 try rw[hG]
 rw[hG] at HB0;have HGE:=Hi hG;clear hV0 hG;go_loopw [10] (fun i wr=>∃(k:Nat) (gs:List Nat),k<=n/\i=.int .i64 k/\gs.length=k/\SB wr G 70 (gs.map (slRow m)++List.replicate (n - k) (Value.slice none 0 0)).toArray/\(∀(r g:Nat),gs[r]?=some g->QBlk wr g (List.replicate m FE.zero)/\G<g)/\(∀(r r' g:Nat),gs[r]?=some g->gs[r']?=some g->r=r')/\Below G w wr) (fun i _=>n - (intOf i).toNat)
 case atStart=>exact⟨0,[],by omega,rfl,rfl,HS0.out,fun r g h=>by simp at h,fun r r' g h=>by simp at h,HB0.out⟩
 case round=>
  obtain⟨k,gs,hk,rfl,hgl,hsb,hall,hnd,hb⟩:=hrel;have HB:=Hi hb;have HS:=Hi hsb;have HA:=Hi hall;have HN:=Hi hnd;have HL:=Hi hgl;have hglt:=hsb.lt;clear hb hsb hall hnd;by_cases hlt:k<n
  ·
   obtain⟨V,hV⟩:=nm (wr.alloc (.cells MD 103));have HBV:Hid (Below wr.heap.size wr V):=Hi (by rw[<-hV];exact(Below.refl _ _).alloc lZ _);have HQ:Hid (QBlk V wr.heap.size (List.replicate m FE.zero)):=Hi (by rw[<-hV];exact QBlk.new wr m MD HMD.out);have hsV:=HS.out.below HBV.out HS.out.lt;have f0:=hsV.free k;have t0:V.cell? ⟨G,k,none⟩=some (.slice none 0 0):=by
    rw[hsV.cell];have e:(gs.map (slRow m)++List.replicate (n - k) (Value.slice none 0 0)).toArray[k]?=(gs.map (slRow m)++List.replicate (n - k) (Value.slice none 0 0))[k]?:=by simp
    rw[e,List.getElem?_append_right (by rw[List.length_map];omega),List.length_map,hgl,Nat.sub_self,List.getElem?_replicate,if_pos (by omega)]
   have HSV:=Hi hsV;have q1:((k:Int)<(n:Int)):=by omega
   rw[<-hV] at f0 t0;have HV:=Hi hV;clear hV hsV hgl;go_wp2_with fail;have e0:(wr.setCell ⟨G,k,none⟩ (.slice (some ⟨wr.heap.size,0,none⟩) m m)).alloc (.cells MD 103)=V.setCell ⟨G,k,none⟩ (.slice (some ⟨wr.heap.size,0,none⟩) m m):=by
    rw[<-HV.out];exact(World.setCell_alloc_past _ _ _ _ hglt).symm
   rw[e0];have ho:Only G V (V.setCell ⟨G,k,none⟩ (.slice (some ⟨wr.heap.size,0,none⟩) m m)):=(Only.refl G V).setCell _ _;have hold:∀(r g:Nat),gs[r]?=some g->g<wr.heap.size:=fun r g hr=>(HA.out r g hr).1.blk.lt
   refine⟨⟨k+1,gs++ [wr.heap.size],by omega,by go_num,by rw[List.length_append];have:=HL.out;simp;omega,?_,?_,?_,((HB.out.trans (HBV.out.mono (Nat.le_of_lt hglt))).setCell (p:=⟨G,k,none⟩) lZ _)⟩,?_⟩
   ·
    have h1:=HSV.out.set k (.slice (some ⟨wr.heap.size,0,none⟩) m m);rw[List.setIfInBounds_toArray] at h1;rw[<-Qlj m n k wr.heap.size gs hlt HL.out];exact h1
   ·
    intro r g hr;rcases Nat.lt_or_ge r gs.length with h|h
    ·
     rw[List.getElem?_append_left h] at hr;obtain⟨h1,h2⟩:=HA.out r g hr;exact⟨(h1.below HBV.out).zeroOnly ho (by omega),h2⟩
    ·
     rw[List.getElem?_append_right h] at hr;have e1:g=wr.heap.size:=by simpa using mO hr
     rw[e1];exact⟨HQ.out.zeroOnly ho (by omega),hglt⟩
   ·
    intro r r' g hr hr';rcases Nat.lt_or_ge r gs.length with h|h<;>rcases Nat.lt_or_ge r' gs.length with h'|h'
    ·
     rw[List.getElem?_append_left h] at hr;rw[List.getElem?_append_left h'] at hr';exact HN.out r r' g hr hr'
    ·
     rw[List.getElem?_append_left h] at hr;rw[List.getElem?_append_right h'] at hr';have e1:g=wr.heap.size:=by simpa using mO hr'
     have:=hold r g hr;omega
    ·
     rw[List.getElem?_append_right h] at hr;rw[List.getElem?_append_left h'] at hr';have e1:g=wr.heap.size:=by simpa using mO hr
     have:=hold r' g hr';omega
    ·
     have h1:=(gZ hr).1;have h2:=(gZ hr').1;rw[List.length_append] at h1 h2;simp at h1 h2;omega
   · simp[intOf]
     omega
  ·
   have hk':k=n:=by omega
   subst hk';go_wp2;go_ret;refine⟨⟨G,gs,rfl,HL.out,Nat.le_of_eq HGE.out,?_,HA.out,HN.out⟩,by rw[HGE.out];exact HB.out⟩;have h1:=HS.out;rw[Nat.sub_self] at h1
   simpa using h1
end Go.Proofs.YtfpcipgoedifaaaGreatDoor
