/- package rows: Signs. -/
import Derived.Test.YtfpcipgoedifaaaGreatDoorK39CabB
namespace Go.Proofs.YtfpcipgoedifaaaGreatDoor
open Go.RowKit
set_option linter.unusedVariables false
set_option linter.unusedSimpArgs false
def RowF(n K:Nat)(x:Vec):Fact:=fun v u=>∃(a:Option Addr) (cap:Nat) (ts:List FE),v=.slice a n cap/\QRow u a cap ts/\ts.length=n/\∀(c:Nat) (t:FE),ts[c]?=some t->t.q=x c/\t.k<=K
theorem RowF.stays(n K:Nat)(x:Vec):Stays (RowF n K x):=fun _ _ _ hb ⟨a,cap,ts,e,h1,h2⟩=>⟨a,cap,ts,e,h1.below hb,h2⟩
theorem RowF.below{n K:Nat}{x:Vec}{v:Value}{w w':World}(h:RowF n K x v w)(hb:Below w.heap.size w w'):RowF n K x v w':=RowF.stays n K x v w w' hb h
theorem SqV.row{w:World}{a:Option Addr}{cap n K i:Nat}{M:Cab.Mx}{rs:List MR}{r:MR}(h:SqV w a cap n K M rs)(hr:rs[i]?=some r):RowF n K (M i) (.slice r.a n r.cap) w:=by
 obtain⟨h1,h2⟩:=h.mat.get hr;exact⟨r.a,r.cap,r.ts,rfl,h1,h2,h.val i r hr⟩
theorem Qgw{n K1 K2 J B:Nat}{x y:Vec}{q:Rat}{u v b:Value}{w:World}(h1:RowF n K1 x u w)(h2:RowF n K2 y v w)(h3:FF q J b w)(hn:n<=1000)(hB:K1+K2+J+1<=B)(hBB:B<68719476000):
 Calls Tryz.prog 114 #[u,v,b] w (Makes w (RowF n B (fun c=>x c - y c*q))):=by
 obtain⟨a,cap,ts,rfl,hq,hl,hv⟩:=h1;obtain⟨a',cap',ss,rfl,hq',hl',hv'⟩:=h2;obtain⟨b1,b2,b3,rfl⟩:=h3.parts;have h:=Qeg a a' cap cap' B J ts ss b1 b2 b3 q w hq hq' (by omega) (by omega) h3.1 h3.2.1 h3.2.2 (fun t ht s hs=>by
  obtain⟨i,hi⟩:=List.getElem?_of_mem ht;obtain⟨j,hj⟩:=List.getElem?_of_mem hs;have:=(hv i t hi).2;have:=(hv' j s hj).2
  omega) hBB
 rw[hl] at h;refine h.mono ?_;rintro e w' ⟨⟨g,us,rfl,hg,hqb,hm⟩,hb⟩;have hul:us.length=n:=hm.1.trans hl;refine⟨_,rfl,hb,some ⟨g,0,none⟩,n,us,rfl,by have:=hqb.row;rw[hul] at this;exact this,hul,fun c t ht=>?_⟩;have hcn:c<n:=by have:=(gZ ht).1;omega
 obtain⟨e,he⟩:∃e,ts[c]?=some e:=⟨ts[c]'(by omega),gE _⟩;obtain⟨s,hs⟩:∃s,ss[c]?=some s:=⟨ss[c]'(by omega),gE _⟩;obtain⟨u,h1,h2,h3⟩:=hm.2 c e (by omega) he;obtain rfl:=Option.some.inj (ht.symm.trans h1);refine⟨?_,h3⟩;have h4:t.q=e.q - qAt ss c*q:=h2;rw[h4,Qa7 hs,(hv c e he).1,(hv' c s hs).1]
def swpM(M:Cab.Mx)(p c:Nat):Cab.Mx:=fun i j=>if p=c then M i j - M p j*(M i c / M p c) else M i j - M p j*(M i c / M p c) - M c j*(M i p / M p c)
def SwOk(w:World)(n K k:Nat)(M:Cab.Mx)(rx:List MR):Prop:=∀(i:Nat) (r:MR),i<k->rx[i]?=some r->QRow w r.a r.cap r.ts/\r.ts.length=n/\∀(c:Nat) (t:FE),r.ts[c]?=some t->t.q=M i c/\t.k<=K
theorem SwOk.fr{w w':World}{n K k:Nat}{M:Cab.Mx}{rx:List MR}(h:SwOk w n K k M rx)(hf:Fr w w'):SwOk w' n K k M rx:=fun i r hi hr=>⟨(h i r hi hr).1.fr hf,(h i r hi hr).2⟩
theorem SwOk.set{w:World}{n K k:Nat}{M:Cab.Mx}{rx:List MR}{x:MR}(h:SwOk w n K k M rx)(hk:k<rx.length)(hq:QRow w x.a x.cap x.ts)(hl:x.ts.length=n)(hv:∀(c:Nat) (t:FE),x.ts[c]?=some t->t.q=M k c/\t.k<=K):SwOk w n K (k+1) M (rx.set k x):=fun i r hi hr=>by
 rcases Nat.lt_or_ge i k with h1|h1
 · rw[List.getElem?_set_ne (by omega)] at hr
   exact h i r h1 hr
 ·
  obtain rfl:i=k:=by omega
  rw[List.getElem?_set_self hk] at hr;obtain rfl:=Option.some.inj hr;exact⟨hq,hl,hv⟩
theorem mr_fr{w:World}{g k:Nat}{rx:List MR}{v:Value}(hs:SB w g 70 (rx.flatMap MR.cells).toArray):Fr w (w.setCell ⟨g,k,none⟩ v):=
 Fr.of_only ((Only.refl _ _).setCell _ _) hs (IsSl.plain fun u hu=>mr_sl rx u (by simpa using hu))
set_option maxRecDepth 100000 in
set_option maxHeartbeats 4000000 in
theorem Qgx(a:Option Addr)(cap n J KB p c:Nat)(M:Cab.Mx)(rs:List MR)(w:World)(h:SqV w a cap n J M rs)(hn:n<=1000)(hp:p<n)(hc:c<n)(hK:7*J+2<=KB)(hKB:KB<68719476000):
 Calls Tryz.prog 78 #[.slice a n cap,.int .i64 p,.int .i64 c] w fun e w'=>(∃(g:Nat) (rs':List MR),e=.returned (.slice (some ⟨g,0,none⟩) n n)/\SqV w' (some ⟨g,0,none⟩) n n KB (swpM M p c) rs')/\Below w.heap.size w w':=by
 have hmk:=fun u=>Qga n (by omega) u
 obtain⟨MC,hMC⟩:=nm (((List.replicate n MR.none).flatMap MR.cells).toArray);rw[hMC] at hmk;obtain⟨rp,hrp⟩:∃r,rs[p]?=some r:=⟨rs[p]'(by have:=h.len;omega),gE _⟩;obtain⟨rc,hrc⟩:∃r,rs[c]?=some r:=⟨rs[c]'(by have:=h.len;omega),gE _⟩;obtain⟨fb,off,rfl,hfb,dp⟩:=h.mat.at hrp;obtain⟨fb',off',hfe,hfb',dc⟩:=h.mat.at hrc;cases hfe;obtain⟨hqp,hlp⟩:=h.mat.get hrp;obtain⟨ep,hep⟩:∃e,rp.ts[c]?=some e:=⟨rp.ts[c]'(by omega),gE _⟩;obtain⟨pb,po,hpa,hpb,e0,e1,e2⟩:=hqp.at hep;rw[hlp] at dp;rw[(h.mat.get hrc).2] at dc;have HH:=Hi h;have HBY:=Hi (h.ff hrp hep);have HRP:=Hi (h.row hrp);have HRC:=Hi (h.row hrc);have HDP0:=Hi dp;have HDC0:=Hi dc;have HFB0:=Hi hfb;have HMC:=Hi hMC;have q1:((p:Int)<(n:Int)):=by omega
 have q2:((c:Int)<(n:Int)):=by omega
 rw[hpa] at dp;have st0:=Qaa Tryz.prog (h.ff hrp hep).1.one.1;have st1:=Qaa Tryz.prog (h.ff hrp hep).1.one.2.1;have st2:=Qaa Tryz.prog (h.ff hrp hep).1.one.2.2;obtain⟨g,hg⟩:=nm w.heap.size;obtain⟨V,hV⟩:=nm ((w.alloc (.cells MC 70)).alloc (.cells #[ep.x,ep.y,ep.z] 103));have c0:=((Below.refl w.heap.size w).alloc lZ (.cells MC 70)).cell (p:=⟨fb,off+p,none⟩) hfb;rw[dp] at c0;have c1:=((Below.refl w.heap.size w).alloc lZ (.cells MC 70)).cell (p:=⟨pb,po+c*3,none⟩) hpb;rw[e0] at c1;have c2:=((Below.refl w.heap.size w).alloc lZ (.cells MC 70)).cell (p:=⟨pb,po+c*3+1,none⟩) hpb;rw[e1] at c2;have c3:=((Below.refl w.heap.size w).alloc lZ (.cells MC 70)).cell (p:=⟨pb,po+c*3+2,none⟩) hpb;rw[e2] at c3;clear h hqp hep hpa e0 e1 e2 dp dc hMC hrp hrc hlp;have HB0:Hid (Below w.heap.size w V):=Hi (by rw[<-hV];exact Below.new2 w _ _)
 have HS0:Hid (SB V g 70 ((List.replicate n MR.none).flatMap MR.cells).toArray):=Hi (by rw[<-hV,<-hg,HMC.out];exact(SB.new w _ _).alloc _);have HY0:Hid (SB V (g+1) 103 #[ep.x,ep.y,ep.z]):=Hi (by rw[<-hV,<-hg];exact SB.new2 w _ _ _ _);obtain⟨bb,hbb⟩:=nm (g+1);have HBB:Hid (w.heap.size<=g/\bb≠g):=Hi (by omega);have hV':=hV;rw[hbb] at HY0;go_enter Tryz.func78,Tryz.ntmps78;go_wp2_with fail
 try rw[hbb]
 clear hmk hV hV' hg hbb c0 c1 c2 c3 st0 st1 st2;go_loopw [23] (fun iv wr=>∃(k:Nat) (rx:List MR),k<=n/\iv=.int .i64 k/\rx.length=n/\SB wr g 70 (rx.flatMap MR.cells).toArray/\SB wr bb 103 #[ep.x,ep.y,ep.z]/\SwOk wr n KB k (swpM M p c) rx/\Below w.heap.size w wr) (fun iv _=>n - (intOf iv).toNat)
 case atStart=>exact⟨0,_,by omega,rfl,by simp,HS0.out,HY0.out,fun i r hi=>by omega,HB0.out⟩
 case round=>
  obtain⟨k,rx,hk,rfl,hrl,hsb,hyb,hok,hb⟩:=hrel;by_cases hlt:k<n
  ·
   obtain⟨r,hr⟩:∃r,rs[k]?=some r:=⟨rs[k]'(by have:=HH.out.len;omega),gE _⟩;obtain⟨fb',off',hfe,hfb',d⟩:=(HH.out.below hb).mat.at hr;cases hfe;obtain⟨hq,hrw⟩:=HH.out.mat.get hr;obtain⟨e,he⟩:∃e,r.ts[c]?=some e:=⟨r.ts[c]'(by omega),gE _⟩;obtain⟨e',he'⟩:∃e,r.ts[p]?=some e:=⟨r.ts[p]'(by omega),gE _⟩;obtain⟨rb,ro,hra,hrb,t0,t1,t2⟩:=hq.at he;obtain⟨rb',ro',hra',_,t3,t4,t5⟩:=hq.at he';rw[hra] at hra';cases hra';have hrow:=HH.out.row hr;rw[hra] at hrow;have hdr:Below wr.heap.size wr wr.drew:=bR.drew;have HRW:=Hi hrow;have HRV:=Hi (HH.out.ff hr he);have HRV':=Hi (HH.out.ff hr he');have HRB:=Hi hrb;have HT0:=Hi t0;have HT1:=Hi t1;have HT2:=Hi t2;have HT3:=Hi t3;have HT4:=Hi t4;have HT5:=Hi t5;have hy:=hyb.below hdr hyb.lt;have HB0:=Hi (hy.cell 0);have HB1:=Hi (hy.cell 1);have HB2:=Hi (hy.cell 2)
   simp only[List.getElem?_toArray,List.getElem?_cons_zero,List.getElem?_cons_succ] at HB0 HB1 HB2;have HBL:=Hi hy.lt;have HSB:=Hi (hsb.below hdr hsb.lt);have HYB:=Hi hy;have HOK:=Hi (hok.fr (Fr.of_below hdr));have HB:=Hi (hb.trans (hdr.mono hb.size));rw[hra,hrw] at d;have q3:((k:Int)<(n:Int)):=by omega
   clear hq he he' hrow hdr hy hok hsb hyb hb hr t0 t1 t2 t3 t4 t5;have HJ:Hid (J+J<68719476000/\J+J+(J+J)+1<=4*J+1/\4*J+1<68719476000/\4*J+1+J+(J+J)+1<=KB):=Hi (by omega);go_wp2_with fail;refine RegG.bg 15 (fun j=>some (28+j)) ?_;refine RegG.p0 [] ?_;refine RegG.p0 [] ?_;refine RegG.p0 [] ?_;refine RegG.p0 [] ?_;refine RegG.p0 [] ?_;refine RegG.p0 [3,4] ?_;refine RegG.pu (c:=?_) [5] (fun w hb=>?_) ?_;rotate_left
   ·
    intro K hK;have d0:=(hb.cell (p:=⟨fb,off+p,none⟩) (Nat.lt_of_lt_of_le HFB0.out HB.out.size)).trans (ce HB.out HFB0.out HDP0.out);go_simp;exact hK
   refine RegG.p0 [] ?_;refine RegG.p0 [] ?_;refine RegG.p0 [7,8] ?_;refine RegG.pu (c:=?_) [9] (fun w hb=>?_) ?_;rotate_left
   ·
    intro K hK;have d0:=(hb.cell (p:=⟨rb,ro+c*3,none⟩) (Nat.lt_of_lt_of_le HRB.out HB.out.size)).trans (ce HB.out HRB.out HT0.out);have d1:=(hb.cell (p:=⟨rb,ro+c*3+1,none⟩) (Nat.lt_of_lt_of_le HRB.out HB.out.size)).trans (ce HB.out HRB.out HT1.out);have d2:=(hb.cell (p:=⟨rb,ro+c*3+2,none⟩) (Nat.lt_of_lt_of_le HRB.out HB.out.size)).trans (ce HB.out HRB.out HT2.out);go_simp;exact hK
   refine RegG.pu (c:=?_) [] (fun w hb=>?_) ?_;rotate_left
   ·
    intro K hK;have d0:=ce hb HBL.out HB0.out;have d1:=ce hb HBL.out HB1.out;have d2:=ce hb HBL.out HB2.out;go_simp;exact hK
   refine RegG.ca (φ:=FF (M k c / M p c) (J+J)) [10,11] (FF.stays _ _) (fun w hb=>?_) ?_
   ·
    skip;intro K hK;go_simp;exact Makes.use ((HRV.out.below (HB.out.trans (hb.mono HB.out.size))).over (HBY.out.below (HB.out.trans (hb.mono HB.out.size))) HJ.out.1) hK
   refine RegG.ca (φ:=RowF n (4*J+1) (fun j=>M k j - M p j*(M k c / M p c))) [2,6,12] (RowF.stays _ _ _) (fun w hb=>?_) ?_
   ·
    intro v12 h12;intro K hK;go_simp;exact Makes.use (Qgw (HRW.out.below (HB.out.trans (hb.mono HB.out.size))) (HRP.out.below (HB.out.trans (hb.mono HB.out.size))) h12 hn HJ.out.2.1 HJ.out.2.2.1) hK
   refine RegG.p0 [0,1] ?_;refine RegG.last (by simp only[List.nil_append,List.cons_append,List.length_append,List.length_cons,List.length_nil,Nat.reduceAdd]) (by rfl) (by rfl) (by kernel_rfl) (fun x6 hb=>?_);simp only[FinG,List.nil_append,List.cons_append,Qaf,Act.put,List.setIfInBounds_toArray,List.set_cons_zero,List.set_cons_succ,Nat.reduceAdd,Nat.reduceBEq,cond_true,cond_false];intro v12 _ v13 h13 K6 hK6;obtain⟨a13,c13,ts13,rfl,hq13,hl13,hv13⟩:=h13;have hs6:=HSB.out.below hb HSB.out.lt;have f0:=hs6.free k;obtain⟨rx0,hrx0⟩:∃r0,rx[k]?=some r0:=⟨rx[k]'(by omega),gE _⟩;have t0:=Qej hs6 hrx0;have hfr:=mr_fr (k:=k) (v:=Value.slice a13 n c13) hs6;have hst6:=hs6.set k (.slice a13 n c13);have ho6:Only g x6 (x6.setCell ⟨g,k,none⟩ (.slice a13 n c13)):=(Only.refl _ _).setCell _ _;go_simp;refine hK6 _ _ ?_;clear hK6 t0 f0 d
   have HB7:Hid (Below w.heap.size w (x6.setCell ⟨g,k,none⟩ (.slice a13 n c13))):=Hi (Only.fresh (HB.out.trans (hb.mono HB.out.size)) ho6 HBB.out.1);have HS7:Hid (SB (x6.setCell ⟨g,k,none⟩ (.slice a13 n c13)) g 70 ((rx.set k ⟨a13,c13,ts13⟩).flatMap MR.cells).toArray):=Hi (by
    rw[Qeh];rw[List.setIfInBounds_toArray] at hst6
    show SB _ _ _ (List.set _ k (.slice a13 ts13.length c13)).toArray
    rw[hl13]
    exact hst6)
   have HY7:=Hi ((HYB.out.below hb HYB.out.lt).only ho6 HBB.out.2);have HOK7:=Hi (((HOK.out.fr (Fr.of_below hb)).fr hfr));have HQ7:=Hi (hq13.fr hfr);have HV7:=Hi hv13;have HL7:=Hi hl13;obtain⟨X7,hX7⟩:=nm (x6.setCell ⟨g,k,none⟩ (.slice a13 n c13));rw[hX7] at HB7 HS7 HY7 HOK7 HQ7 ⊢;clear hX7 hs6 hst6 hfr ho6 hb hq13 hl13 hv13 hrx0 HSB HYB HOK HB HB0 HB1 HB2 HBL;have HRK:Hid ((rx.set k (⟨a13,c13,ts13⟩:MR)).length=n/\k<rx.length):=Hi ⟨by rw[List.length_set];exact hrl,by omega⟩;go_wp2_with fail
   ·
    have hpc:p≠c:=by
     rename_i hne;intro e;subst e;simp at hne
    have HPC:=Hi hpc;have hdr:Below X7.heap.size X7 X7.drew:=bR.drew;have hy:=HY7.out.below hdr HY7.out.lt;have HB0:=Hi (hy.cell 0);have HB1:=Hi (hy.cell 1);have HB2:=Hi (hy.cell 2);simp only[List.getElem?_toArray,List.getElem?_cons_zero,List.getElem?_cons_succ] at HB0 HB1 HB2;have HBL:=Hi hy.lt;have HY:=Hi hy;have HS7:=Hi (HS7.out.below hdr HS7.out.lt);have HB:=Hi (HB7.out.trans (hdr.mono HB7.out.size));have HOK8:=Hi (HOK7.out.fr (Fr.of_below hdr));have HRW13:Hid (RowF n (4*J+1) (fun j=>M k j - M p j*(M k c / M p c)) (.slice a13 n c13) X7.drew):=Hi ⟨a13,c13,ts13,rfl,HQ7.out.below hdr,HL7.out,HV7.out⟩;have HXK:Hid ((rx.set k (⟨a13,c13,ts13⟩:MR))[k]?=some ⟨a13,c13,ts13⟩):=Hi (List.getElem?_set_self HRK.out.2);have HGC:Hid (X7.drew.cell? ⟨g,k,none⟩=some (.slice a13 n c13)):=Hi (by
     have h:=Qej HS7.out HXK.out;rw[HL7.out] at h
     exact h)
    have HGL:=Hi HS7.out.lt;clear hdr hy hpc HY7 HQ7;refine RegG.bg 18 (fun j=>some (46+j)) ?_;refine RegG.p0 [] ?_;refine RegG.p0 [] ?_;refine RegG.p0 [] ?_;refine RegG.p0 [] ?_;refine RegG.p0 [2,3] ?_;refine RegG.pu (c:=?_) [4] (fun w hb=>?_) ?_;rotate_left
    ·
     intro K hK;have d0:=ce hb HGL.out HGC.out;go_simp;exact hK
    refine RegG.p0 [] ?_;refine RegG.p0 [] ?_;refine RegG.p0 [6,7] ?_;refine RegG.pu (c:=?_) [8] (fun w hb=>?_) ?_;rotate_left
    ·
     intro K hK;have d0:=(hb.cell (p:=⟨fb,off+c,none⟩) (Nat.lt_of_lt_of_le HFB0.out HB.out.size)).trans (ce HB.out HFB0.out HDC0.out);go_simp;exact hK
    refine RegG.p0 [] ?_;refine RegG.p0 [] ?_;refine RegG.p0 [10,11] ?_;refine RegG.pu (c:=?_) [12] (fun w hb=>?_) ?_;rotate_left
    ·
     intro K hK;have d0:=(hb.cell (p:=⟨rb,ro+p*3,none⟩) (Nat.lt_of_lt_of_le HRB.out HB.out.size)).trans (ce HB.out HRB.out HT3.out);have d1:=(hb.cell (p:=⟨rb,ro+p*3+1,none⟩) (Nat.lt_of_lt_of_le HRB.out HB.out.size)).trans (ce HB.out HRB.out HT4.out);have d2:=(hb.cell (p:=⟨rb,ro+p*3+2,none⟩) (Nat.lt_of_lt_of_le HRB.out HB.out.size)).trans (ce HB.out HRB.out HT5.out);go_simp;exact hK
    refine RegG.pu (c:=?_) [] (fun w hb=>?_) ?_;rotate_left
    ·
     intro K hK;have d0:=ce hb HBL.out HB0.out;have d1:=ce hb HBL.out HB1.out;have d2:=ce hb HBL.out HB2.out;go_simp;exact hK
    refine RegG.ca (φ:=FF (M k p / M p c) (J+J)) [13,14] (FF.stays _ _) (fun w hb=>?_) ?_
    ·
     skip;intro K hK;go_simp;exact Makes.use ((HRV'.out.below (HB.out.trans (hb.mono HB.out.size))).over (HBY.out.below (HB.out.trans (hb.mono HB.out.size))) HJ.out.1) hK
    refine RegG.ca (φ:=RowF n KB (fun j=>M k j - M p j*(M k c / M p c) - M c j*(M k p / M p c))) [5,9,15] (RowF.stays _ _ _) (fun w hb=>?_) ?_
    ·
     intro v12 h12;intro K hK;go_simp;exact Makes.use (Qgw (HRW13.out.below hb) (HRC.out.below (HB.out.trans (hb.mono HB.out.size))) h12 hn HJ.out.2.2.2 hKB) hK
    refine RegG.p0 [0,1] ?_;refine RegG.last (by simp only[List.nil_append,List.cons_append,List.length_append,List.length_cons,List.length_nil,Nat.reduceAdd]) (by rfl) (by rfl) (by kernel_rfl) (fun x8 hb=>?_);simp only[FinG,List.nil_append,List.cons_append,Qaf,Act.put,List.setIfInBounds_toArray,List.set_cons_zero,List.set_cons_succ,Nat.reduceAdd,Nat.reduceBEq,cond_true,cond_false];intro v15 _ v16 h16 K8 hK8;obtain⟨a16,c16,ts16,rfl,hq16,hl16,hv16⟩:=h16;have hs8:=HS7.out.below hb HS7.out.lt;have f0:=hs8.free k;have t0:=Qej hs8 HXK.out;have hfr8:=mr_fr (k:=k) (v:=Value.slice a16 n c16) hs8;have hst8:=hs8.set k (.slice a16 n c16);have ho8:Only g x8 (x8.setCell ⟨g,k,none⟩ (.slice a16 n c16)):=(Only.refl _ _).setCell _ _;go_simp;refine hK8 _ _ ?_;clear hK8 t0 f0;have HS9:Hid (SB (x8.setCell ⟨g,k,none⟩ (.slice a16 n c16)) g 70 ((rx.set k ⟨a16,c16,ts16⟩).flatMap MR.cells).toArray):=Hi (by
     rw[List.setIfInBounds_toArray] at hst8;rw[<-List.set_set (a:=(⟨a13,c13,ts13⟩:MR)),Qeh]
     show SB _ _ _ (List.set _ k (.slice a16 ts16.length c16)).toArray
     rw[hl16]
     exact hst8)
    have HY9:=Hi ((HY.out.below hb HY.out.lt).only ho8 HBB.out.2);have HB9:=Hi (Only.fresh (HB.out.trans (hb.mono HB.out.size)) ho8 HBB.out.1);have HO9:=Hi (((HOK8.out.fr (Fr.of_below hb)).fr hfr8).set (x:=⟨a16,c16,ts16⟩) HRK.out.2 (hq16.fr hfr8) hl16 (fun i t ht=>by
     have h:=hv16 i t ht;refine⟨?_,h.2⟩;rw[h.1];unfold swpM
     rw[if_neg HPC.out]))
    have HL9:Hid ((rx.set k (⟨a16,c16,ts16⟩:MR)).length=n):=Hi (by rw[List.length_set];exact hrl);clear hs8 hst8 hfr8 ho8 hb hq16 hl16 hv16;go_wp2;go_roundw
    case rel=>exact⟨k+1,_,by omega,by go_num,HL9.out,HS9.out,HY9.out,HO9.out,HB9.out⟩
    case measure=>simp[intOf];omega
   ·
    have hpc:p=c:=by
     rename_i hne;apply bC;intro e;rw[bne_eq_false_iff_eq] at hne;exact e (by omega)
    refine⟨⟨k+1,_,by omega,by go_num,HRK.out.1,HS7.out,HY7.out,HOK7.out.set HRK.out.2 HQ7.out HL7.out (fun i t ht=>?_),HB7.out⟩,by simp[intOf];omega⟩;have h:=HV7.out i t ht;refine⟨?_,by omega⟩;rw[h.1];unfold swpM;rw[if_pos hpc]
  ·
   obtain rfl:k=n:=by omega
   go_wp2;go_ret;refine⟨⟨g,rx,rfl,⟨hsb.arow rfl (by omega),fun r hr=>?_⟩,hrl,fun i r hr=>(hok i r (by have:=(gZ hr).1;omega) hr).2.2⟩,hb⟩;obtain⟨i,hi⟩:=List.getElem?_of_mem hr;have h:=hok i r (by have:=(gZ hi).1;omega) hi;exact⟨h.1,h.2.1⟩
theorem SqV.refit{w:World}{a:Option Addr}{cap n K KF:Nat}{M:Cab.Mx}{rs:List MR}(h:SqV w a cap n K M rs)(hf:∀i c,i<n->c<n->Fits (M i c) KF)(hK:0<KF):∃rs',SqV w a cap n KF M rs':=by
 refine⟨rs.map (fun r=>{ r with ts:=r.ts.map (fun t=>{ t with k:=KF }) }),⟨?_,fun r hr=>?_⟩,by rw[List.length_map];exact h.len,fun i r hr c t ht=>?_⟩
 ·
  have e:(rs.map (fun r=>({ r with ts:=r.ts.map (fun t=>{ t with k:=KF }) }:MR))).flatMap MR.cells=rs.flatMap MR.cells:=by
   rw[List.flatMap_map]
   congr 1
   funext r;simp[MR.cells]
  have h1:=h.mat.row;exact⟨by have:=h1.fit;simpa using this,by rw[e];exact h1.row⟩
 ·
  obtain⟨r0,hr0,rfl⟩:=List.mem_map.1 hr;obtain⟨h1,h2⟩:=h.mat.rs r0 hr0;obtain⟨i,hi⟩:=List.getElem?_of_mem hr0;have hin:i<n:=by have:=(gZ hi).1;have:=h.len;omega
  refine⟨⟨?_,fun t ht=>?_⟩,by simpa using h2⟩
  ·
   have h3:=h1.row;have e:(r0.ts.map (fun t=>({ t with k:=KF }:FE))).flatMap FE.cells=r0.ts.flatMap FE.cells:=by
    rw[List.flatMap_map];rfl
   exact⟨by have:=h3.fit;simpa using this,by rw[e];exact h3.row⟩
  ·
   obtain⟨t0,ht0,rfl⟩:=List.mem_map.1 ht;obtain⟨c,hc⟩:=List.getElem?_of_mem ht0;have hcn:c<n:=by have:=(gZ hc).1;omega
   have h3:=h1.ts t0 ht0;refine⟨h3.1,?_,hK⟩
   show Fits t0.q KF
   rw[(h.val i r0 hi c t0 hc).1];exact hf i c hin hcn
 ·
  rw[List.getElem?_map] at hr;obtain⟨r0,hr0,rfl⟩:=Option.map_eq_some_iff.1 hr;simp only[List.getElem?_map] at ht;obtain⟨t0,ht0,rfl⟩:=Option.map_eq_some_iff.1 ht;exact⟨(h.val i r0 hr0 c t0 ht0).1,Nat.le_refl _⟩
theorem Qeu{q:Rat}(h:q≠0):(sgn3 q.num=1/\0<q)∨(sgn3 q.num= -1/\q<0):=by
 have h0:q.num≠0:=fun e=>h (Rat.num_eq_zero.1 e)
 unfold sgn3;by_cases hn:q.num<0
 ·
  rw[if_pos hn];refine .inr ⟨rfl,?_⟩;refine bC fun hq=>?_
  have:=Rat.num_nonneg.2 (Rat.not_lt.1 hq);omega
 ·
  rw[if_neg hn,if_neg h0];refine .inl ⟨rfl,?_⟩;refine bC fun hq=>?_
  have h1:q<=0:=Rat.not_lt.1 hq;have h2:0<=q:=Rat.num_nonneg.1 (by omega);exact h (Rat.le_antisymm h1 h2)
theorem Qmu(M:Cab.Mx)(p:Nat):swpM M p p=Cab.sweep1 M p p:=by
 funext i j;unfold swpM Cab.sweep1 lessBy;rw[if_pos rfl]
theorem Qmv(M:Cab.Mx){p c:Nat}(h:p≠c):swpM M p c=Cab.sweep2 M p c:=by
 funext i j;unfold swpM Cab.sweep2;rw[if_neg h]
def SgnSays(n:Nat)(M:Cab.Mx)(a b:Nat):Prop:=(b=0->∀x,0<=Cab.form n M x)/\(a=0->∀x,Cab.form n M x<=0)/\(0<n->∀y:Vec,(∀i,i<n->dot n (M i) y=0)->(∀i,i<n->y i≠0)->a+b<n)/\a+b<=n
theorem Qmw{n P b a c:Nat}{M0 M:Cab.Mx}{hs:List Nat}(h:Cab.SgI n M0 M hs a c)(hn:n<=10)(hP:0<P)(hPb:P<=2 ^ b)(hM:∀i j,Wh P b (M0 i j))(hz:∀i j,n<=j->M0 i j=0):∀i c,i<n->c<n->Fits (M i c) (kE b):=fun i c hi _=>
 h.si.fit (n:=n) (by omega) h.len hP hPb (fun r hr j=>by
  obtain⟨k,_,rfl⟩:=Cab.rowsL_mem.1 hr
  exact hM k j) (fun r hr j hj=>by
  obtain⟨k,_,rfl⟩:=Cab.rowsL_mem.1 hr
  exact hz k j hj) (M i) (Cab.rowsL_mem.2 ⟨i,hi,rfl⟩) c
set_option maxRecDepth 100000 in
set_option maxHeartbeats 4000000 in
theorem Qmx(a:Option Addr)(cap n J P b:Nat)(M:Cab.Mx)(rs:List MR)(w:World)(h:SqV w a cap n J M rs)(hn:n<=10)(hs:Cab.Sym n M)(hP:0<P)(hPb:P<=2 ^ b)(hM:∀i j,Wh P b (M i j))(hz:∀i j,n<=j->M i j=0)(hJ:kE b<=J)(hJ2:7*J+2<68719476000):
 Calls Tryz.prog 40 #[.slice a n cap] w fun e w'=>(∃p m:Nat,e=.returned (.tuple #[.int .i64 p,.int .i64 m])/\SgnSays n M p m)/\Below w.heap.size w w':=by
 have HF:=Hi (fun (M':Cab.Mx) hh a c (h:Cab.SgI n M M' hh a c)=>Qmw h hn hP hPb hM hz);have HJ:=Hi (And.intro hJ hJ2);have H0:=Hi (Cab.SgI.start hs);have HS0:=Hi h;have HK:Hid (0<kE b):=Hi (by simp only[kE];omega);clear h hs hPb hM hz hJ hJ2;go_enter Tryz.func40,Tryz.ntmps40;go_wp2_with fail;go_loopw [0,2,3] (fun lv pv mv wr=>∃(a':Option Addr) (cap' p m:Nat) (M':Cab.Mx) (rs':List MR) (hh:List Nat),lv=.slice a' n cap'/\pv=.int .i64 p/\mv=.int .i64 m/\SqV wr a' cap' n J M' rs'/\Cab.SgI n M M' hh p m/\Below w.heap.size w wr) (fun _ pv mv _=>n - ((intOf pv).toNat+(intOf mv).toNat))
 case atStart=>exact⟨a,cap,0,0,M,rs,[],rfl,rfl,rfl,HS0.out,H0.out,Below.refl _ _⟩
 case round=>
  obtain⟨a',cap',p,m,M',rs',hh,rfl,rfl,rfl,hsv,hsg,hb⟩:=hrel;have HS:=Hi hsv;have HG:=Hi hsg;have HB:=Hi hb;have HPV:=Hi (Qmo a' cap' n J M' rs' wr hsv (by omega));have hpm:=hsg.cnt;have hpn:=hsg.len;clear hsv hsg hb;go_wp2_with fail;go_fit HPV.out;rintro e w1 ⟨⟨pi,ci,rfl,hpv⟩,hb1⟩;have HS1:=Hi (HS.out.below hb1);have HB1:=Hi (HB.out.trans (hb1.mono HB.out.size));clear hb1 HPV HS HB;rcases hpv with ⟨rfl,rfl,hz⟩|⟨k,hk,rfl,rfl,h0⟩|⟨i,k,hki,hi,rfl,rfl,h0,hd⟩
  ·
   have HZ:=Hi hz;clear hz;go_wp2;go_ret2;refine⟨⟨p,m,rfl,HG.out.done (fun i c hi hc=>?_)⟩,HB1.out⟩;rcases Nat.lt_or_ge i c with h|h
   · rw[HG.out.sym i c hi hc]
     exact HZ.out c i hc (Nat.le_of_lt h)
   · exact HZ.out i c hi h
  ·
   have hsk:=HG.out.one hk h0;obtain⟨rk,hrk⟩:∃r,rs'[k]?=some r:=⟨rs'[k]'(by have:=HS1.out.len;omega),gE _⟩;obtain⟨fb,off,rfl,hfb,d⟩:=HS1.out.mat.at hrk;obtain⟨hq,hrl⟩:=HS1.out.mat.get hrk;obtain⟨e,he⟩:∃e,rk.ts[k]?=some e:=⟨rk.ts[k]'(by omega),gE _⟩;obtain⟨rb,ro,hra,hrb,d0,d1,d2⟩:=hq.at he;have HFF:=Hi (HS1.out.ff hrk he);rw[hra,hrl] at d;have q1:((k:Int)<(n:Int)):=by omega
   have HD:=Hi d;have HFB:=Hi hfb;have HRB:=Hi hrb;have HD0:=Hi d0;have HD1:=Hi d1;have HD2:=Hi d2;clear hq he hra hrk;go_wp2_with fail;clear d d0 d1 d2;refine Makes.use HFF.out.sign ?_;rintro _ w2 hb2 rfl;have d:=ce hb2 HFB.out HD.out;have d0:=ce hb2 HRB.out HD0.out;have d1:=ce hb2 HRB.out HD1.out;have d2:=ce hb2 HRB.out HD2.out;have HF2:=Hi (HFF.out.below hb2);have HB2:=Hi hb2;have HJB:=HJ.out;obtain⟨M2,hM2⟩:=nm (swpM M' k k);rw[<-Qmu,hM2] at hsk;have hSW:=fun (u:World) (hu:Below w1.heap.size w1 u)=>Qgx (some ⟨fb,off,none⟩) cap' n J (7*J+2) k k M' rs' u (HS1.out.below hu) (by omega) hk hk lZ HJB.2
   rw[hM2] at hSW;have HSW:=Hi hSW;clear hb2 hSW HJB hM2;rcases Qeu h0 with ⟨hsg,hq0⟩|⟨hsg,hq0⟩
   ·
    rw[if_pos hq0,if_neg (Rat.not_lt.2 (Rat.le_of_lt hq0))] at hsk;have HSK:=Hi hsk;rw[hsg];clear hsk hq0 h0;go_wp2_with fail;clear d d0 d1 d2;refine Makes.use HF2.out.sign ?_;rintro _ w3 hb3 rfl;rw[hsg];have HB3:=Hi (HB2.out.trans (hb3.mono HB2.out.size));clear hb3;go_wp2_with fail;go_fit (HSW.out _ HB3.out);rintro e w4 ⟨⟨g,rs4,rfl,hs4⟩,hb4⟩;obtain⟨rs5,hs5⟩:=hs4.refit (KF:=J) (fun i c hi hc=>(HF.out _ _ _ _ HSK.out i c hi hc).mono HJ.out.1) (by have:=HK.out;have:=HJ.out;omega);have HS5:=Hi hs5;have HB5:=Hi (HB1.out.trans ((HB3.out.trans (hb4.mono HB3.out.size)).mono HB1.out.size));have HL5:=Hi HSK.out.len;rw[List.length_append,List.length_singleton] at HL5;clear hs4 hs5 hb4 HSW;go_wp2;go_roundw
    case rel=>exact⟨_,_,p+1,m,_,_,_,rfl,by go_num,by go_num,HS5.out,HSK.out,HB5.out⟩
    case measure=>have:=HL5.out;simp[intOf];omega
   ·
    rw[if_neg (Rat.not_lt.2 (Rat.le_of_lt hq0)),if_pos hq0] at hsk;have HSK:=Hi hsk;rw[hsg];clear hsk hq0 h0;go_wp2_with fail;clear d d0 d1 d2;refine Makes.use HF2.out.sign ?_;rintro _ w3 hb3 rfl;rw[hsg];have HB3:=Hi (HB2.out.trans (hb3.mono HB2.out.size));clear hb3;go_wp2_with fail;go_fit (HSW.out _ HB3.out);rintro e w4 ⟨⟨g,rs4,rfl,hs4⟩,hb4⟩;obtain⟨rs5,hs5⟩:=hs4.refit (KF:=J) (fun i c hi hc=>(HF.out _ _ _ _ HSK.out i c hi hc).mono HJ.out.1) (by have:=HK.out;have:=HJ.out;omega);have HS5:=Hi hs5;have HB5:=Hi (HB1.out.trans ((HB3.out.trans (hb4.mono HB3.out.size)).mono HB1.out.size));have HL5:=Hi HSK.out.len;rw[List.length_append,List.length_singleton] at HL5;clear hs4 hs5 hb4 HSW;go_wp2;go_roundw
    case rel=>exact⟨_,_,p,m+1,_,_,_,rfl,by go_num,by go_num,HS5.out,HSK.out,HB5.out⟩
    case measure=>have:=HL5.out;simp[intOf];omega
  ·
   have hsk:=HG.out.two hi (by omega) (hd i hi) (hd k (by omega)) h0;have hne:i≠k:=by omega
   obtain⟨M2,hM2⟩:=nm (swpM M' i k);rw[<-Qmv M' hne,hM2] at hsk;have hSW:=Qgx a' cap' n J (7*J+2) i k M' rs' w1 HS1.out (by omega) hi (by omega) lZ HJ.out.2;rw[hM2] at hSW;have HSW:=Hi hSW;have HSK:=Hi hsk;have e0:((i:Int) != (k:Int))=true:=by
    rw[bne_iff_ne];omega
   clear hsk hSW hM2 hd h0 hne;go_wp2_with fail;go_fit HSW.out;rintro e w4 ⟨⟨g,rs4,rfl,hs4⟩,hb4⟩;obtain⟨rs5,hs5⟩:=hs4.refit (KF:=J) (fun i c hi hc=>(HF.out _ _ _ _ HSK.out i c hi hc).mono HJ.out.1) (by have:=HK.out;have:=HJ.out;omega);have HS5:=Hi hs5;have HB5:=Hi (HB1.out.trans (hb4.mono HB1.out.size));have HL5:=Hi HSK.out.len;rw[List.length_append,List.length_append,List.length_singleton,List.length_singleton] at HL5;clear hs4 hs5 hb4 HSW;go_wp2;go_roundw
   case rel=>exact⟨_,_,p+1,m+1,_,_,_,rfl,by go_num,by go_num,HS5.out,HSK.out,HB5.out⟩
   case measure=>have:=HL5.out;simp[intOf];omega
end Go.Proofs.YtfpcipgoedifaaaGreatDoor
