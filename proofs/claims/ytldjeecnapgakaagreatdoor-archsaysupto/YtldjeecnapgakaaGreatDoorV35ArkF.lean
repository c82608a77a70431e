/- package arch: fits, goesAt, told. -/
import Derived.Test.YtldjeecnapgakaaGreatDoorV34ArkC
namespace Go.Proofs.YtldjeecnapgakaaGreatDoor
open Go.RowKit
open Go.Proofs.Tryz
set_option linter.unusedSimpArgs false
set_option linter.unusedVariables false
set_option maxHeartbeats 8000000
set_option maxRecDepth 1000000
def SV4(qa ql qh qs:Rat)(A E:Nat):Fact:=fun v w=>∃a l u s:FE,v=.agg #[a.x,a.y,a.z,l.x,l.y,l.z,u.x,u.y,u.z,s.x,s.y,s.z]/\FE.ok w a/\FE.ok w l/\FE.ok w u/\FE.ok w s/\a.q=qa/\l.q=ql/\u.q=qh/\s.q=qs/\a.k<=A/\l.k<=A/\u.k<=A/\s.k<=E
theorem SV4.stays(qa ql qh qs:Rat)(A E:Nat):Stays (SV4 qa ql qh qs A E):=fun _ _ _ hb ⟨a,l,u,s,e,h1,h2,h3,h4,r⟩=>⟨a,l,u,s,e,h1.below hb,h2.below hb,h3.below hb,h4.below hb,r⟩
def LineV(st m pa:Rat)(k1 k2 k3:Nat):Fact:=fun v w=>∃(b1 b2 b3:Nat) (e1 e2 a l u s:FE),v=.func (.func 84) #[] #[.pointer (some ⟨b1,0,none⟩),.pointer (some ⟨b2,0,none⟩),.pointer (some ⟨b3,0,none⟩)]/\
 TBlk 63 w b1 [e1]/\TBlk 63 w b2 [e2]/\TBlk 82 w b3 [a,l,u,s]/\e1.q=st/\e2.q=m/\a.q=pa/\e1.k<=k1/\e2.k<=k2/\a.k<=k3
theorem LineV.stays(st m pa:Rat)(k1 k2 k3:Nat):Stays (LineV st m pa k1 k2 k3):=fun _ _ _ hb ⟨b1,b2,b3,e1,e2,a,l,u,s,e,h1,h2,h3,r⟩=>⟨b1,b2,b3,e1,e2,a,l,u,s,e,h1.below hb,h2.below hb,h3.below hb,r⟩
theorem TBlk.four{w:World}{g:Nat}{a l u s:FE}(hs:SB w g 82 #[a.x,a.y,a.z,l.x,l.y,l.z,u.x,u.y,u.z,s.x,s.y,s.z])(ha:FE.ok w a)(hl:FE.ok w l)(hu:FE.ok w u)(hs':FE.ok w s):TBlk 82 w g [a,l,u,s]:=⟨hs,fun t ht=>by
 simp only[List.mem_cons,List.not_mem_nil,or_false] at ht;rcases ht with rfl|rfl|rfl|rfl
 . exact ha
 . exact hl
 . exact hu
 . exact hs'⟩
def BoxF(n:Nat):Fact:=fun v w=>∃b,v=.pointer (some ⟨b,0,none⟩)/\n<=b/\SB w b 63 #[.bool false,.slice none 0 0,.slice none 0 0]
theorem BoxF.stays(n:Nat):Stays (BoxF n):=fun _ _ _ hb ⟨b,e,h1,h2⟩=>⟨b,e,h1,h2.below hb h2.lt⟩
theorem Qkn{v y:Value}{w:World}{st m pa qa ql qh qs:Rat}{k1 k2 k3 A E:Nat}(hl:LineV st m pa k1 k2 k3 y w)(hs:SV4 qa ql qh qs A E v w)(hk:k1+k2+k3+A+E<60000000000):∃lb,y=.func (.func 84) #[] lb/\
 Calls prog 84 (#[v]++lb) w (Makes w (FF (st+m*(qa - pa)+qs) (k1+(k2+(A+k3+1))+1+E+1))):=by
 obtain⟨b1,b2,b3,e1,e2,pA,pL,pU,pS,rfl,h1,h2,h3,rfl,rfl,rfl,hk1,hk2,hk3⟩:=hl;obtain⟨a,l,u,s,rfl,ha,hl,hu,hs,rfl,rfl,rfl,rfl,ka,kl,ku,ks⟩:=hs;refine⟨_,rfl,?_⟩;have hc:FF e1.q k1 (.agg #[e1.x,e1.y,e1.z]) w:=FF.mono (h1.ok e1 (by simp)) hk1;have hm:FF e2.q k2 (.agg #[e2.x,e2.y,e2.z]) w:=FF.mono (h2.ok e2 (by simp)) hk2;have hp:FF pA.q k3 (.agg #[pA.x,pA.y,pA.z]) w:=FF.mono (h3.ok pA (by simp)) hk3;obtain⟨V,hV⟩:=nm ((w.alloc (.cells #[a.x,a.y,a.z,l.x,l.y,l.z,u.x,u.y,u.z,s.x,s.y,s.z] 82)).alloc (.cells #[.bool false,.slice none 0 0,.slice none 0 0] 63));have HBV:=Ub hV;have HSV:=Ud hV;have HRV:=Ue hV
 obtain⟨o1,o2,o3⟩:=ha.1.one;obtain⟨o4,o5,o6⟩:=hl.1.one;obtain⟨o7,o8,o9⟩:=hu.1.one;obtain⟨o10,o11,o12⟩:=hs.1.one;have s1:=Qaa prog o1;have s2:=Qaa prog o2;have s3:=Qaa prog o3;have s4:=Qaa prog o4;have s5:=Qaa prog o5;have s6:=Qaa prog o6;have s7:=Qaa prog o7;have s8:=Qaa prog o8;have s9:=Qaa prog o9;have s10:=Qaa prog o10;have s11:=Qaa prog o11;have s12:=Qaa prog o12;obtain⟨HVE,HH1,HH2,HH3,HC,HM,HP,HA,HSH⟩:=Ih hV h1 h2 h3 hc hm hp (FF.mono ha ka) (FF.mono hs ks);clear hV h1 h2 h3 hc hm hp ha hl hu hs o1 o2 o3 o4 o5 o6 o7 o8 o9 o10 o11 o12
 show Calls prog 84 #[.agg #[a.x,a.y,a.z,l.x,l.y,l.z,u.x,u.y,u.z,s.x,s.y,s.z],.pointer (some ⟨b1,0,none⟩),.pointer (some ⟨b2,0,none⟩),.pointer (some ⟨b3,0,none⟩)] w _
 go_enter func84,ntmps84;go_wp2_with fail;rw[HVE.o];clear s1 s2 s3 s4 s5 s6 s7 s8 s9 s10 s11 s12;obtain⟨Y,hY⟩:=nm V.drew;have HYE:=Hi hY;have HBY:O (Below w.heap.size w Y):=Hi (by rw[<-hY];exact HBV.o.drew);have HS:O (SB Y w.heap.size 82 #[a.x,a.y,a.z,l.x,l.y,l.z,u.x,u.y,u.z,s.x,s.y,s.z]):=Hi (by rw[<-hY];exact HSV.o);have HR:O (SB Y (w.heap.size+1) 63 #[.bool false,.slice none 0 0,.slice none 0 0]):=Hi (by rw[<-hY];exact HRV.o);obtain⟨H1,H2,H3,F1,F2,F3,F4,F5⟩:=Ig (HH1.o.below HBY.o) (HH2.o.below HBY.o) (HH3.o.below HBY.o) (HC.o.below HBY.o) (HM.o.below HBY.o) (HP.o.below HBY.o) (HA.o.below HBY.o) (HSH.o.below HBY.o);clear hY;refine RegG.bg 12 (fun j=>some (6+j)) ?_;rw[HYE.o];refine RegG.pu (c:=?_) [] (fun w hb=>?_) ?_;rotate_left
 .
  intro K hK;obtain⟨c0,c1,c2⟩:=(H1.o.below hb).at (i:=0) rfl;obtain⟨d0,d1,d2⟩:=(H2.o.below hb).at (i:=0) rfl;have hs12:=(H3.o.below hb).blk;have g0:=hs12.cell 0;have g1:=hs12.cell 1;have g2:=hs12.cell 2;have hs13:=HS.o.below hb HS.o.lt;have p0:=hs13.cell 0;have p1:=hs13.cell 1;have p2:=hs13.cell 2;have p9:=hs13.cell 9;have p10:=hs13.cell 10;have p11:=hs13.cell 11;simp only[FE.cs,List.flatMap_cons,List.cons_append,List.nil_append,List.getElem?_toArray,List.getElem?_cons_zero,List.getElem?_cons_succ] at g0 g1 g2 p0 p1 p2 p9 p10 p11;simp only[Nat.zero_mul,Nat.zero_add] at c0 c1 c2 d0 d1 d2;clear hs12 hs13;go_simp;exact hK
 refine RegG.pu (c:=?_) [] (fun w hb=>?_) ?_;rotate_left
 .
  intro K hK;obtain⟨c0,c1,c2⟩:=(H1.o.below hb).at (i:=0) rfl;obtain⟨d0,d1,d2⟩:=(H2.o.below hb).at (i:=0) rfl;have hs12:=(H3.o.below hb).blk;have g0:=hs12.cell 0;have g1:=hs12.cell 1;have g2:=hs12.cell 2;have hs13:=HS.o.below hb HS.o.lt;have p0:=hs13.cell 0;have p1:=hs13.cell 1;have p2:=hs13.cell 2;have p9:=hs13.cell 9;have p10:=hs13.cell 10;have p11:=hs13.cell 11;simp only[FE.cs,List.flatMap_cons,List.cons_append,List.nil_append,List.getElem?_toArray,List.getElem?_cons_zero,List.getElem?_cons_succ] at g0 g1 g2 p0 p1 p2 p9 p10 p11;simp only[Nat.zero_mul,Nat.zero_add] at c0 c1 c2 d0 d1 d2;clear hs12 hs13;go_simp;exact hK
 refine RegG.pu (c:=?_) [] (fun w hb=>?_) ?_;rotate_left
 .
  intro K hK;go_simp;exact hK
 refine RegG.pu (c:=?_) [2] (fun w hb=>?_) ?_;rotate_left
 .
  intro K hK;obtain⟨c0,c1,c2⟩:=(H1.o.below hb).at (i:=0) rfl;obtain⟨d0,d1,d2⟩:=(H2.o.below hb).at (i:=0) rfl;have hs12:=(H3.o.below hb).blk;have g0:=hs12.cell 0;have g1:=hs12.cell 1;have g2:=hs12.cell 2;have hs13:=HS.o.below hb HS.o.lt;have p0:=hs13.cell 0;have p1:=hs13.cell 1;have p2:=hs13.cell 2;have p9:=hs13.cell 9;have p10:=hs13.cell 10;have p11:=hs13.cell 11;simp only[FE.cs,List.flatMap_cons,List.cons_append,List.nil_append,List.getElem?_toArray,List.getElem?_cons_zero,List.getElem?_cons_succ] at g0 g1 g2 p0 p1 p2 p9 p10 p11;simp only[Nat.zero_mul,Nat.zero_add] at c0 c1 c2 d0 d1 d2;clear hs12 hs13;go_simp;exact hK
 refine RegG.pu (c:=?_) [] (fun w hb=>?_) ?_;rotate_left
 .
  intro K hK;go_simp;exact hK
 refine RegG.pu (c:=?_) [4] (fun w hb=>?_) ?_;rotate_left
 .
  intro K hK;obtain⟨c0,c1,c2⟩:=(H1.o.below hb).at (i:=0) rfl;obtain⟨d0,d1,d2⟩:=(H2.o.below hb).at (i:=0) rfl;have hs12:=(H3.o.below hb).blk;have g0:=hs12.cell 0;have g1:=hs12.cell 1;have g2:=hs12.cell 2;have hs13:=HS.o.below hb HS.o.lt;have p0:=hs13.cell 0;have p1:=hs13.cell 1;have p2:=hs13.cell 2;have p9:=hs13.cell 9;have p10:=hs13.cell 10;have p11:=hs13.cell 11;simp only[FE.cs,List.flatMap_cons,List.cons_append,List.nil_append,List.getElem?_toArray,List.getElem?_cons_zero,List.getElem?_cons_succ] at g0 g1 g2 p0 p1 p2 p9 p10 p11;simp only[Nat.zero_mul,Nat.zero_add] at c0 c1 c2 d0 d1 d2;clear hs12 hs13;go_simp;exact hK
 refine RegG.ca (φ:=FF (a.q - pA.q) (A+k3+1)) [3,5] (FF.stays _ _) (fun w hb=>?_) ?_
 .
  intro K hK;go_simp;exact Makes.use (FF.minus (F4.o.below hb) (F3.o.below hb) (by omega)) hK
 refine RegG.ca (φ:=FF (e2.q*(a.q - pA.q)) (k2+(A+k3+1))) [1,6] (FF.stays _ _) (fun w hb=>?_) ?_
 .
  intro v6 h6;intro K hK;go_simp;exact Makes.use (FF.times (F2.o.below hb) h6 (by omega)) hK
 refine RegG.ca (φ:=FF (e1.q+e2.q*(a.q - pA.q)) (k1+(k2+(A+k3+1))+1)) [0,7] (FF.stays _ _) (fun w hb=>?_) ?_
 .
  intro v7 h7;intro K hK;go_simp;exact Makes.use (FF.plus (F1.o.below hb) h7 (by omega)) hK
 refine RegG.pu (c:=?_) [] (fun w hb=>?_) ?_;rotate_left
 .
  intro K hK;go_simp;exact hK
 refine RegG.pu (c:=?_) [9] (fun w hb=>?_) ?_;rotate_left
 .
  intro K hK;obtain⟨c0,c1,c2⟩:=(H1.o.below hb).at (i:=0) rfl;obtain⟨d0,d1,d2⟩:=(H2.o.below hb).at (i:=0) rfl;have hs12:=(H3.o.below hb).blk;have g0:=hs12.cell 0;have g1:=hs12.cell 1;have g2:=hs12.cell 2;have hs13:=HS.o.below hb HS.o.lt;have p0:=hs13.cell 0;have p1:=hs13.cell 1;have p2:=hs13.cell 2;have p9:=hs13.cell 9;have p10:=hs13.cell 10;have p11:=hs13.cell 11;simp only[FE.cs,List.flatMap_cons,List.cons_append,List.nil_append,List.getElem?_toArray,List.getElem?_cons_zero,List.getElem?_cons_succ] at g0 g1 g2 p0 p1 p2 p9 p10 p11;simp only[Nat.zero_mul,Nat.zero_add] at c0 c1 c2 d0 d1 d2;clear hs12 hs13;go_simp;exact hK
 refine RegG.ca (φ:=FF (e1.q+e2.q*(a.q - pA.q)+s.q) (k1+(k2+(A+k3+1))+1+E+1)) [8,10] (FF.stays _ _) (fun w hb=>?_) ?_
 .
  intro v8 h8;intro K hK;go_simp;exact Makes.use (FF.plus h8 (F5.o.below hb) (by omega)) hK
 refine RegG.last (by simp only[List.nil_append,List.cons_append,List.length_append,List.length_cons,List.length_nil,Nat.reduceAdd]) (by rfl) (by rfl) (by kernel_rfl) (fun u9 hb=>?_);simp only[FinG,List.nil_append,List.cons_append,Qak,Act.put,List.setIfInBounds_toArray,List.set_cons_zero,List.set_cons_succ,Nat.reduceAdd,Nat.reduceBEq,cond_true,cond_false];intro v6 _ v7 _ v8 _ v11 h11 K hK;obtain⟨m1,m2,m3,rfl⟩:=h11.parts;obtain⟨o1,o2,o3⟩:=h11.1.one;have s1:=Qaa prog o1;have s2:=Qaa prog o2;have s3:=Qaa prog o3;have hr:=TBlk.box (HR.o.below hb HR.o.lt) (FF.zero _);have c0:=hr.blk.cell 0;have c1:=hr.blk.cell 1;have c2:=hr.blk.cell 2;simp only[FE.cs,List.flatMap_cons,List.flatMap_nil,List.append_nil,List.cons_append,List.nil_append,List.getElem?_toArray,List.getElem?_cons_zero,List.getElem?_cons_succ] at c0 c1 c2;have f0:=hr.blk.free 0;have f1:=hr.blk.free 1
 have f2:=hr.blk.free 2;obtain⟨hn,ho⟩:=hr.set (k:=0) (e:=⟨m1,m2,m3,_,_⟩) (by simp) h11;simp only[Nat.zero_mul,Nat.zero_add,List.set_cons_zero] at hn ho;obtain⟨HN,HO,HB9⟩:=Ib hn ho (HBY.o.trans (hb.mono HBY.o.size));clear hn ho hr h11 o1 o2 o3 hb;go_simp;refine hK _ _ ?_;go_wp2;refine bodyPost_ret (v:=.agg #[m1,m2,m3]) (results_cell_row rfl _ _ (w.heap.size+1) 63 #[m1,m2,m3] (0,0) _ rfl HN.o.blk underlying63 rfl Tryz.fracInfo) rfl ?_;exact⟨_,rfl,Only.fresh HB9.o HO.o (by omega),HN.o.ok _ (List.mem_singleton.2 rfl)⟩
theorem Qf5{vp vu vq vv:Value}{w:World}{pa pl ph ps qa ql qh qs u v:Rat}{A E ku kv:Nat}(hp:SV4 pa pl ph ps A E vp w)(hu:FF u ku vu w)(hq:SV4 qa ql qh qs A E vq w)(hv:FF v kv vv w)(hk:2*ku+2*kv+2*A+3*E<60000000000):
 Calls prog 39 #[vp,vu,vq,vv] w (Makes w (LineV (u - ps) ((v - qs - (u - ps)) / (qa - pa)) pa (ku+E+1) (kv+E+1+(ku+E+1)+1+(A+A+1)) A)):=by
 obtain⟨a,l,h,s,rfl,ha,hl,hh,hs,rfl,rfl,rfl,rfl,ka,kl,kh,ks⟩:=hp;obtain⟨a',l',h',s',rfl,ha',hl',hh',hs',rfl,rfl,rfl,rfl,ka',kl',kh',ks'⟩:=hq;obtain⟨u1,u2,u3,rfl⟩:=hu.parts;obtain⟨v1,v2,v3,rfl⟩:=hv.parts;obtain⟨V,hV⟩:=nm ((((w.alloc (.cells #[a.x,a.y,a.z,l.x,l.y,l.z,h.x,h.y,h.z,s.x,s.y,s.z] 82)).alloc (.cells #[u1,u2,u3] 63)).alloc (.cells #[a'.x,a'.y,a'.z,l'.x,l'.y,l'.z,h'.x,h'.y,h'.z,s'.x,s'.y,s'.z] 82)).alloc (.cells #[v1,v2,v3] 63));obtain⟨B,hB⟩:=nm w.heap.size;have HBV:O (Below w.heap.size w V):=Hi (by rw[<-hV];exact(Below.new3 w _ _ _).alloc (by simp;omega) _);have HP0:O (SB V B 82 #[a.x,a.y,a.z,l.x,l.y,l.z,h.x,h.y,h.z,s.x,s.y,s.z]):=Hi (by rw[<-hV,<-hB];exact(((SB.new w _ _).alloc _).alloc _).alloc _);have HU0:O (SB V (B+1) 63 #[u1,u2,u3]):=Hi (by rw[<-hV,<-hB];exact((SB.new2 w _ _ _ _).alloc _).alloc _)
 have HQ0:O (SB V (B+1+1) 82 #[a'.x,a'.y,a'.z,l'.x,l'.y,l'.z,h'.x,h'.y,h'.z,s'.x,s'.y,s'.z]):=Hi (by rw[<-hV,<-hB];exact(SB.new3 w _ _ _ _ _ _).alloc _);have HV0:O (SB V (B+1+1+1) 63 #[v1,v2,v3]):=Hi (by rw[<-hV,<-hB];have:=SB.new (((w.alloc (.cells #[a.x,a.y,a.z,l.x,l.y,l.z,h.x,h.y,h.z,s.x,s.y,s.z] 82)).alloc (.cells #[u1,u2,u3] 63)).alloc (.cells #[a'.x,a'.y,a'.z,l'.x,l'.y,l'.z,h'.x,h'.y,h'.z,s'.x,s'.y,s'.z] 82)) 63 #[v1,v2,v3];simpa using this);obtain⟨FU,FV,FS⟩:=Ib (hu.below HBV.o) (hv.below HBV.o) (FF.mono (FF.below hs HBV.o) ks);have FS':=Hi (FF.mono (FF.below hs' HBV.o) ks');have FA:=Hi (FF.mono (FF.below ha HBV.o) ka);have FA':=Hi (FF.mono (FF.below ha' HBV.o) ka');obtain⟨HOK,HKA⟩:=Ia (And.intro ha (And.intro hl (And.intro hh hs))) ka;obtain⟨o1,o2,o3⟩:=ha.1.one;obtain⟨o4,o5,o6⟩:=hl.1.one;obtain⟨o7,o8,o9⟩:=hh.1.one;obtain⟨o10,o11,o12⟩:=hs.1.one
 have s1:=Qaa prog o1;have s2:=Qaa prog o2;have s3:=Qaa prog o3;have s4:=Qaa prog o4;have s5:=Qaa prog o5;have s6:=Qaa prog o6;have s7:=Qaa prog o7;have s8:=Qaa prog o8;have s9:=Qaa prog o9;have s10:=Qaa prog o10;have s11:=Qaa prog o11;have s12:=Qaa prog o12;clear o1 o2 o3 o4 o5 o6 o7 o8 o9 o10 o11 o12;obtain⟨o1,o2,o3⟩:=ha'.1.one;obtain⟨o4,o5,o6⟩:=hl'.1.one;obtain⟨o7,o8,o9⟩:=hh'.1.one;obtain⟨o10,o11,o12⟩:=hs'.1.one;have r1:=Qaa prog o1;have r2:=Qaa prog o2;have r3:=Qaa prog o3;have r4:=Qaa prog o4;have r5:=Qaa prog o5;have r6:=Qaa prog o6;have r7:=Qaa prog o7;have r8:=Qaa prog o8;have r9:=Qaa prog o9;have r10:=Qaa prog o10;have r11:=Qaa prog o11;have r12:=Qaa prog o12;clear o1 o2 o3 o4 o5 o6 o7 o8 o9 o10 o11 o12;obtain⟨o1,o2,o3⟩:=hu.1.one;have x1:=Qaa prog o1
 have x2:=Qaa prog o2;have x3:=Qaa prog o3;clear o1 o2 o3;obtain⟨o1,o2,o3⟩:=hv.1.one;have y1:=Qaa prog o1;have y2:=Qaa prog o2;have y3:=Qaa prog o3;clear o1 o2 o3;have c1:=HU0.o.cell 0;have c2:=HU0.o.cell 1;have c3:=HU0.o.cell 2;have c4:=HP0.o.cell 9;have c5:=HP0.o.cell 10;have c6:=HP0.o.cell 11;simp only[List.getElem?_toArray,List.getElem?_cons_zero,List.getElem?_cons_succ] at c1 c2 c3 c4 c5 c6;obtain⟨HVE,HBE⟩:=Ia hV hB;clear hV hB hu hv ha hl hh hs ha' hl' hh' hs' ka kl kh ks ka' kl' kh' ks';go_enter func39,ntmps39;go_wp2_with fail;rw[HVE.o];simp only[HBE.o];clear c1 c2 c3 c4 c5 c6 s1 s2 s3 s4 s5 s6 s7 s8 s9 s10 s11 s12 r1 r2 r3 r4 r5 r6 r7 r8 r9 r10 r11 r12 x1 x2 x3 y1 y2 y3;refine Makes.use (FF.minus FU.o FS.o (by omega)) ?_;intro vs w1 hb1 hs1;obtain⟨m1,m2,m3,rfl⟩:=hs1.parts;obtain⟨B4,hB4⟩:=nm w1.heap.size
 obtain⟨V1,hV1⟩:=nm (w1.alloc (.cells #[m1,m2,m3] 63));have HBV1:O (Below V.heap.size V V1):=Hi (by rw[<-hV1];exact hb1.trans ((bR.alloc lZ _).mono hb1.size));have HST1:O (TBlk 63 V1 B4 [⟨m1,m2,m3,u - s.q,ku+E+1⟩]):=Hi (by
  rw[<-hV1,<-hB4]
  exact TBlk.box (SB.new w1 _ _) (hs1.below (bR.alloc lZ _)))
 obtain⟨o1,o2,o3⟩:=hs1.1.one;have x1:=Qaa prog o1;have x2:=Qaa prog o2;have x3:=Qaa prog o3;clear o1 o2 o3;obtain⟨HB4,HV1⟩:=Ia hB4 hV1;clear hB4 hV1 hb1 hs1;go_wp2_with fail;rw[HV1.o];simp only[HB4.o];clear x1 x2 x3;obtain⟨Y,hY⟩:=nm V1.drew;have HYE:=Hi hY;have HBY:O (Below V.heap.size V Y):=Hi (by rw[<-hY];exact HBV1.o.drew);have HST:O (TBlk 63 Y B4 [⟨m1,m2,m3,u - s.q,ku+E+1⟩]):=Hi (by rw[<-hY];exact HST1.o.below bR.drew);obtain⟨HV,HQ,HP,FVY⟩:=Ic (TBlk.box (HV0.o.below HBY.o HV0.o.lt) (FV.o.below HBY.o)) (HQ0.o.below HBY.o HQ0.o.lt) (HP0.o.below HBY.o HP0.o.lt) (FV.o.below HBY.o);have FSY':=Hi (FS'.o.below HBY.o);have FAY:=Hi (FA.o.below HBY.o);have FAY':=Hi (FA'.o.below HBY.o)
 have FST:O (FF (u - s.q) (ku+E+1) (.agg #[m1,m2,m3]) Y):=Hi (HST.o.ok _ (List.mem_singleton.2 rfl));clear hY;refine RegG.bg 13 (fun j=>some (bif j == 12 then 10 else 15+j)) ?_;rw[HYE.o];refine RegG.pu (c:=?_) [] (fun w hb=>?_) ?_;rotate_left
 .
  intro K hK;obtain⟨c0,c1,c2⟩:=(HST.o.below hb).at (i:=0) rfl;obtain⟨d0,d1,d2⟩:=(HV.o.below hb).at (i:=0) rfl;have hs12:=HQ.o.below hb HQ.o.lt;have hs13:=HP.o.below hb HP.o.lt;have g0:=hs12.cell 0;have g1:=hs12.cell 1;have g2:=hs12.cell 2;have g9:=hs12.cell 9;have g10:=hs12.cell 10;have g11:=hs12.cell 11;have p0:=hs13.cell 0;have p1:=hs13.cell 1;have p2:=hs13.cell 2;simp only[List.getElem?_toArray,List.getElem?_cons_zero,List.getElem?_cons_succ] at g0 g1 g2 g9 g10 g11 p0 p1 p2;simp only[Nat.zero_mul,Nat.zero_add] at c0 c1 c2 d0 d1 d2;clear hs12 hs13;go_simp;exact hK
 refine RegG.pu (c:=?_) [] (fun w hb=>?_) ?_;rotate_left
 .
  intro K hK;go_simp;exact hK
 refine RegG.pu (c:=?_) [1] (fun w hb=>?_) ?_;rotate_left
 .
  intro K hK;obtain⟨c0,c1,c2⟩:=(HST.o.below hb).at (i:=0) rfl;obtain⟨d0,d1,d2⟩:=(HV.o.below hb).at (i:=0) rfl;have hs12:=HQ.o.below hb HQ.o.lt;have hs13:=HP.o.below hb HP.o.lt;have g0:=hs12.cell 0;have g1:=hs12.cell 1;have g2:=hs12.cell 2;have g9:=hs12.cell 9;have g10:=hs12.cell 10;have g11:=hs12.cell 11;have p0:=hs13.cell 0;have p1:=hs13.cell 1;have p2:=hs13.cell 2;simp only[List.getElem?_toArray,List.getElem?_cons_zero,List.getElem?_cons_succ] at g0 g1 g2 g9 g10 g11 p0 p1 p2;simp only[Nat.zero_mul,Nat.zero_add] at c0 c1 c2 d0 d1 d2;clear hs12 hs13;go_simp;exact hK
 refine RegG.ca (φ:=FF (v - s'.q) (kv+E+1)) [0,2] (FF.stays _ _) (fun w hb=>?_) ?_
 .
  intro K hK;go_simp;exact Makes.use (FF.minus (FVY.o.below hb) (FSY'.o.below hb) (by omega)) hK
 refine RegG.pu (c:=?_) [] (fun w hb=>?_) ?_;rotate_left
 .
  intro K hK;obtain⟨c0,c1,c2⟩:=(HST.o.below hb).at (i:=0) rfl;obtain⟨d0,d1,d2⟩:=(HV.o.below hb).at (i:=0) rfl;have hs12:=HQ.o.below hb HQ.o.lt;have hs13:=HP.o.below hb HP.o.lt;have g0:=hs12.cell 0;have g1:=hs12.cell 1;have g2:=hs12.cell 2;have g9:=hs12.cell 9;have g10:=hs12.cell 10;have g11:=hs12.cell 11;have p0:=hs13.cell 0;have p1:=hs13.cell 1;have p2:=hs13.cell 2;simp only[List.getElem?_toArray,List.getElem?_cons_zero,List.getElem?_cons_succ] at g0 g1 g2 g9 g10 g11 p0 p1 p2;simp only[Nat.zero_mul,Nat.zero_add] at c0 c1 c2 d0 d1 d2;clear hs12 hs13;go_simp;exact hK
 refine RegG.ca (φ:=FF (v - s'.q - (u - s.q)) (kv+E+1+(ku+E+1)+1)) [3,4] (FF.stays _ _) (fun w hb=>?_) ?_
 .
  intro v3 h3;intro K hK;go_simp;exact Makes.use (FF.minus h3 (FST.o.below hb) (by omega)) hK
 refine RegG.pu (c:=?_) [] (fun w hb=>?_) ?_;rotate_left
 .
  intro K hK;go_simp;exact hK
 refine RegG.pu (c:=?_) [6] (fun w hb=>?_) ?_;rotate_left
 .
  intro K hK;obtain⟨c0,c1,c2⟩:=(HST.o.below hb).at (i:=0) rfl;obtain⟨d0,d1,d2⟩:=(HV.o.below hb).at (i:=0) rfl;have hs12:=HQ.o.below hb HQ.o.lt;have hs13:=HP.o.below hb HP.o.lt;have g0:=hs12.cell 0;have g1:=hs12.cell 1;have g2:=hs12.cell 2;have g9:=hs12.cell 9;have g10:=hs12.cell 10;have g11:=hs12.cell 11;have p0:=hs13.cell 0;have p1:=hs13.cell 1;have p2:=hs13.cell 2;simp only[List.getElem?_toArray,List.getElem?_cons_zero,List.getElem?_cons_succ] at g0 g1 g2 g9 g10 g11 p0 p1 p2;simp only[Nat.zero_mul,Nat.zero_add] at c0 c1 c2 d0 d1 d2;clear hs12 hs13;go_simp;exact hK
 refine RegG.pu (c:=?_) [] (fun w hb=>?_) ?_;rotate_left
 .
  intro K hK;go_simp;exact hK
 refine RegG.pu (c:=?_) [8] (fun w hb=>?_) ?_;rotate_left
 .
  intro K hK;obtain⟨c0,c1,c2⟩:=(HST.o.below hb).at (i:=0) rfl;obtain⟨d0,d1,d2⟩:=(HV.o.below hb).at (i:=0) rfl;have hs12:=HQ.o.below hb HQ.o.lt;have hs13:=HP.o.below hb HP.o.lt;have g0:=hs12.cell 0;have g1:=hs12.cell 1;have g2:=hs12.cell 2;have g9:=hs12.cell 9;have g10:=hs12.cell 10;have g11:=hs12.cell 11;have p0:=hs13.cell 0;have p1:=hs13.cell 1;have p2:=hs13.cell 2;simp only[List.getElem?_toArray,List.getElem?_cons_zero,List.getElem?_cons_succ] at g0 g1 g2 g9 g10 g11 p0 p1 p2;simp only[Nat.zero_mul,Nat.zero_add] at c0 c1 c2 d0 d1 d2;clear hs12 hs13;go_simp;exact hK
 refine RegG.ca (φ:=FF (a'.q - a.q) (A+A+1)) [7,9] (FF.stays _ _) (fun w hb=>?_) ?_
 .
  intro K hK;go_simp;exact Makes.use (FF.minus (FAY'.o.below hb) (FAY.o.below hb) (by omega)) hK
 refine RegG.ca (φ:=FF ((v - s'.q - (u - s.q)) / (a'.q - a.q)) (kv+E+1+(ku+E+1)+1+(A+A+1))) [5,10] (FF.stays _ _) (fun w hb=>?_) ?_
 .
  intro v5 h5 v10 h10;intro K hK;go_simp;exact Makes.use (FF.over h5 h10 (by omega)) hK
 refine RegG.ca (φ:=BoxF Y.heap.size) [] (BoxF.stays _) (fun w hb=>?_) ?_
 .
  intro K hK;go_simp;exact hK _ _ (bR.alloc lZ _) ⟨w.heap.size,rfl,hb.size,SB.new w _ _⟩
 refine RegG.last (by simp only[List.nil_append,List.cons_append,List.length_append,List.length_cons,List.length_nil,Nat.reduceAdd]) (by rfl) (by rfl) (by kernel_rfl) (fun u9 hb=>?_);simp only[FinG,List.nil_append,List.cons_append,Qak,Act.put,List.setIfInBounds_toArray,List.set_cons_zero,List.set_cons_succ,Nat.reduceAdd,Nat.reduceBEq,cond_true,cond_false];intro v3 _ v5 _ v10 _ v11 h11 v12 h12 K hK;obtain⟨b,rfl,hbb,hsb⟩:=h12;obtain⟨n1,n2,n3,rfl⟩:=h11.parts;obtain⟨o1,o2,o3⟩:=h11.1.one;have s1:=Qaa prog o1;have s2:=Qaa prog o2;have s3:=Qaa prog o3;clear o1 o2 o3;have hr:=TBlk.box hsb (FF.zero _);have c0:=hsb.cell 0;have c1:=hsb.cell 1;have c2:=hsb.cell 2;simp only[List.getElem?_toArray,List.getElem?_cons_zero,List.getElem?_cons_succ] at c0 c1 c2;have f0:=hr.blk.free 0;have f1:=hr.blk.free 1;have f2:=hr.blk.free 2;obtain⟨hn,ho⟩:=hr.set (k:=0) (e:=⟨n1,n2,n3,_,_⟩) (by simp) h11
 simp only[Nat.zero_mul,Nat.zero_add,List.set_cons_zero] at hn ho;have hbY:=hb;obtain⟨HN,HO,HRR,HB9⟩:=Ic hn ho hr hb;have hbY:=hb.size;have ltP:=HP.o.lt;have ltS:=HST.o.blk.lt;clear hn ho hr h11 hb;go_simp;refine hK _ _ ?_;clear hK c0 c1 c2 f0 f1 f2 s1 s2 s3;obtain⟨U,hU⟩:=nm (((u9.setCell ⟨b,0,none⟩ n1).setCell ⟨b,1,none⟩ n2).setCell ⟨b,2,none⟩ n3);rw[hU] at HN HO ⊢;clear hU;have HSTU:=Hi ((HST.o.below HB9.o).apart HRR.o HO.o (by omega));have HPU:O (TBlk 82 U B [a,l,h,s]):=Hi (by
  have hbw:=HBV.o.trans ((HBY.o.trans (HB9.o.mono HBY.o.size)).mono HBV.o.size)
  exact(TBlk.four (HP.o.below HB9.o HP.o.lt) (HOK.o.1.below hbw) (HOK.o.2.1.below hbw) (HOK.o.2.2.1.below hbw) (HOK.o.2.2.2.below hbw)).apart HRR.o HO.o (by omega))
 have HBW:O (Below w.heap.size w U):=Hi (by
  have h1:=HBV.o.trans (HBY.o.mono HBV.o.size)
  exact Only.fresh (h1.trans (HB9.o.mono h1.size)) HO.o (by have:=h1.size;omega))
 go_wp2;go_ret;exact⟨_,rfl,HBW.o,B4,b,B,_,_,a,l,h,s,rfl,HSTU.o,HN.o,HPU.o,rfl,rfl,rfl,Nat.le_refl _,Nat.le_refl _,HKA.o⟩
theorem LineV.call{v x y z:Value}{w:World}{st m pa qa ql qh qs:Rat}{k1 k2 k3 A E:Nat}(hl:LineV st m pa k1 k2 k3 (.func (.func 84) #[] #[x,y,z]) w)(hs:SV4 qa ql qh qs A E v w)(hk:k1+k2+k3+A+E<60000000000):
 Calls prog 84 #[v,x,y,z] w (Makes w (FF (st+m*(qa - pa)+qs) (k1+(k2+(A+k3+1))+1+E+1))):=by
 obtain⟨lb,e,h⟩:=Qkn hl hs hk;cases e;exact h
theorem LineV.parts{v:Value}{w:World}{st m pa:Rat}{k1 k2 k3:Nat}(hl:LineV st m pa k1 k2 k3 v w):∃x y z,v=.func (.func 84) #[] #[x,y,z]:=by
 obtain⟨b1,b2,b3,_,_,_,_,_,_,rfl,_⟩:=hl;exact⟨_,_,_,rfl⟩
theorem Sto.get{A H:Nat}{vs:List V4}{h:Rat}{ts:List FE}{n i:Nat}{v:V4}{w:World}{g:Nat}(hs:Sto A H vs h ts n)(ht:TBlk 82 w g ts)(hi:i<n)(hn:n<=10)(hv:vs[i]?=some v):
 ∃a l u s:FE,(ts[i*4]?=some a/\ts[i*4+1]?=some l/\ts[i*4+2]?=some u/\ts[i*4+3]?=some s)/\FF v.1 A (.agg #[a.x,a.y,a.z]) w/\FF v.2.2.1 A (.agg #[l.x,l.y,l.z]) w/\FF v.2.2.2 A (.agg #[u.x,u.y,u.z]) w/\FF (shp (atF vs) (wtF vs) h i) (52*A+36*H+61) (.agg #[s.x,s.y,s.z]) w:=by
 obtain⟨a,l,u,s,i1,i2,i3,i4,q1,q2,q3,q4,r1,r2,r3,r4⟩:=hs.each i v hi hv;refine⟨a,l,u,s,⟨i1,i2,i3,i4⟩,?_,?_,?_,?_⟩
 . rw[<-q1];exact FF.mono (ht.ok a (mO i1)) r1
 . rw[<-q2];exact FF.mono (ht.ok l (mO i2)) r2
 . rw[<-q3];exact FF.mono (ht.ok u (mO i3)) r3
 . rw[<-q4];exact FF.mono (ht.ok s (mO i4)) (Nat.le_trans r4 (Qd2 (by omega)))
theorem SV4.of{p q r t:Rat}{A E:Nat}{a l u s:FE}{w:World}(h1:FF p A (.agg #[a.x,a.y,a.z]) w)(h2:FF q A (.agg #[l.x,l.y,l.z]) w)(h3:FF r A (.agg #[u.x,u.y,u.z]) w)(h4:FF t E (.agg #[s.x,s.y,s.z]) w):
 SV4 p q r t A E (.agg #[a.x,a.y,a.z,l.x,l.y,l.z,u.x,u.y,u.z,s.x,s.y,s.z]) w:=
 ⟨⟨a.x,a.y,a.z,p,A⟩,⟨l.x,l.y,l.z,q,A⟩,⟨u.x,u.y,u.z,r,A⟩,⟨s.x,s.y,s.z,t,E⟩,rfl,h1,h2,h3,h4,rfl,rfl,rfl,rfl,Nat.le_refl _,Nat.le_refl _,Nat.le_refl _,Nat.le_refl _⟩
def lnV(st m pa:Rat)(vs:List V4)(h:Rat)(i:Nat):Rat:=st+m*(atF vs i - pa)+shp (atF vs) (wtF vs) h i
theorem Qd4{st m pa:Rat}{vs:List V4}{h:Rat}{i:Nat}{v:V4}(hv:vs[i]?=some v):lnV st m pa vs h i=st+m*(v.1 - pa)+shp (atF vs) (wtF vs) h i:=by
 unfold lnV;rw[show atF vs i=v.1 by simp[atF,hv]]
def fitsTo(vs:List V4)(y:Nat->Rat)(k:Nat):Prop:=∀i,i<k->loF vs i<=y i/\y i<=hiF vs i
theorem Qko{vs:List V4}{y:Nat->Rat}{k:Nat}{v:V4}(hv:vs[k]?=some v):fitsTo vs y (k+1)↔fitsTo vs y k/\v.2.2.1<=y k/\y k<=v.2.2.2:=by
 have e1:loF vs k=v.2.2.1:=by simp[loF,hv]
 have e2:hiF vs k=v.2.2.2:=by simp[hiF,hv]
 constructor
 .
  intro h;have:=h k (by omega);rw[e1,e2] at this;exact⟨fun i hi=>h i (by omega),this⟩
 .
  rintro⟨h1,h2⟩ i hi;rcases Nat.lt_or_ge i k with h|h
  . exact h1 i h
  . rw[show i=k by omega,e1,e2];exact h2
theorem Qf6{vs:List V4}{y:Nat->Rat}{j k:Nat}(h:j<=k)(hf:fitsTo vs y k):fitsTo vs y j:=fun i hi=>hf i (by omega)
theorem Qf7{g A H k1 k2 k3:Nat}{vs:List V4}{h st m pa:Rat}{ts:List FE}{y:Value}{w:World}(ht:TBlk 82 w g ts)(hs:Sto A H vs h ts vs.length)(hn:vs.length<=10)(hl:LineV st m pa k1 k2 k3 y w)(hk:k1+k2+k3+54*A+36*H<50000000000):
 Calls prog 37 #[.slice (some ⟨g,0,none⟩) vs.length vs.length,y] w fun e w'=>(∃b,e=.returned (.bool b)/\(b=true↔fitsTo vs (lnV st m pa vs h) vs.length))/\Below w.heap.size w w':=by
 obtain⟨x1,x2,x3,rfl⟩:=hl.parts;obtain⟨HT,HS,HL⟩:=Ib ht hs hl;clear ht hs hl;obtain⟨n,hnn⟩:=nm vs.length;rw[hnn];have HNN:=Hi hnn;rw[hnn] at hn;clear hnn;go_enter func37,ntmps37;go_wp2_with fail;go_loopw [10] (fun iv wr=>∃k:Nat,k<=n/\iv=.int .i64 k/\fitsTo vs (lnV st m pa vs h) k/\Below w.heap.size w wr) (fun iv _=>n - (intOf iv).toNat)
 case atStart=>exact⟨0,Nat.zero_le _,rfl,fun i hi=>by omega,Below.refl _ _⟩
 case round=>
  obtain⟨k,hk',rfl,hf,hb⟩:=hrel;obtain⟨HF,HB⟩:=Ia hf hb;clear hf hb;by_cases hkn:k<n
  .
   obtain⟨v,hv⟩:∃v,vs[k]?=some v:=⟨vs[k]'(by have:=HNN.o;omega),gE _⟩;have htw:=HT.o.below HB.o;obtain⟨a,l,u,s,⟨i1,i2,i3,i4⟩,h1,h2,h3,h4⟩:=HS.o.get htw (by have:=HNN.o;omega) (by have:=HNN.o;omega) hv;obtain⟨t0,t1,t2,t3,t4,t5,t6,t7,t8,t9,t10,t11⟩:=htw.stone i1 i2 i3 i4;obtain⟨o1,o2,o3⟩:=h1.1.one;obtain⟨o4,o5,o6⟩:=h2.1.one;obtain⟨o7,o8,o9⟩:=h3.1.one;obtain⟨o10,o11,o12⟩:=h4.1.one;have s1:=Qaa prog o1;have s2:=Qaa prog o2;have s3:=Qaa prog o3;have s4:=Qaa prog o4;have s5:=Qaa prog o5;have s6:=Qaa prog o6;have s7:=Qaa prog o7;have s8:=Qaa prog o8;have s9:=Qaa prog o9;have s10:=Qaa prog o10;have s11:=Qaa prog o11;have s12:=Qaa prog o12;clear o1 o2 o3 o4 o5 o6 o7 o8 o9 o10 o11 o12;obtain⟨b0,hb0⟩:=nm wr.heap.size
   obtain⟨V,hV⟩:=nm (wr.alloc (.cells #[a.x,a.y,a.z,l.x,l.y,l.z,u.x,u.y,u.z,s.x,s.y,s.z] 82));have hBV:Below wr.heap.size wr V:=by rw[<-hV];exact(Below.refl _ _).alloc lZ _
   have HSB:=Uf hV hb0;obtain⟨HBV,HSV⟩:=Ia (HB.o.trans (hBV.mono HB.o.size)) (SV4.of (h1.below hBV) (h2.below hBV) (h3.below hBV) (h4.below hBV));obtain⟨HLV,FL,FU⟩:=Ib (LineV.stays _ _ _ _ _ _ _ _ _ HBV.o HL.o) (h2.below hBV) (h3.below hBV);have HLN:O (st+m*(v.1 - pa)+shp (atF vs) (wtF vs) h k=lnV st m pa vs h k):=Hi (Qd4 hv).symm;obtain⟨HSU,HVE,HBE⟩:=Ib (Qko (y:=lnV st m pa vs h) hv) hV hb0;have q1:((k:Int)<(n:Int)):=by omega
   clear htw h1 h2 h3 h4 hV hb0 hBV i1 i2 i3 i4 hv;go_wp2_with fail;rw[HVE.o];simp only[HBE.o];clear s1 s2 s3 s4 s5 s6 s7 s8 s9 s10 s11 s12;clear t0 t1 t2 t3 t4 t5 t6 t7 t8 t9 t10 t11;refine Makes.use (LineV.call HLV.o HSV.o (by omega)) ?_;intro vy w2 hb2 hy;rw[HLN.o] at hy;obtain⟨KL,hKL⟩:=nm (k1+(k2+(A+k3+1))+1+(52*A+36*H+61)+1);rw[hKL] at hy;have hKA:KL+A<60000000000:=by omega
   obtain⟨m1,m2,m3,rfl⟩:=hy.parts;obtain⟨b1,hb1⟩:=nm w2.heap.size;obtain⟨V2,hV2⟩:=nm (w2.alloc (.cells #[m1,m2,m3] 63));have hBV2:Below w2.heap.size w2 V2:=by rw[<-hV2];exact(Below.refl _ _).alloc lZ _
   have HB2:O (Below V.heap.size V V2):=Hi (hb2.trans (hBV2.mono hb2.size));have HSY:=Uf hV2 hb1;obtain⟨HY,HSS⟩:=Ia (hy.below hBV2) (HSB.o.below HB2.o HSB.o.lt);obtain⟨o1,o2,o3⟩:=hy.1.one;have s1:=Qaa prog o1;have s2:=Qaa prog o2;have s3:=Qaa prog o3;clear o1 o2 o3;have c3:=HSS.o.cell 3;have c4:=HSS.o.cell 4;have c5:=HSS.o.cell 5;simp only[List.getElem?_toArray,List.getElem?_cons_zero,List.getElem?_cons_succ] at c3 c4 c5;rw[<-hV2] at c3 c4 c5;obtain⟨HV2,HB1,HBW2⟩:=Ib hV2 hb1 (HBV.o.trans (HB2.o.mono HBV.o.size));clear hKL hb1 hV2 hBV2 hy hb2;go_wp2_with fail;rw[HV2.o];simp only[HB1.o];refine Makes.use (FF.compare HY.o (FL.o.below HB2.o) (by omega)) ?_;rintro _ w3 hb3 rfl;obtain⟨HB3,HBW3⟩:=Ia hb3 (HBW2.o.trans (hb3.mono HBW2.o.size))
   have hs3:=HSS.o.below hb3 HSS.o.lt;have hy3:=HSY.o.below hb3 HSY.o.lt;have d0:=hy3.cell 0;have d1:=hy3.cell 1;have d2:=hy3.cell 2;have d6:=hs3.cell 6;have d7:=hs3.cell 7;have d8:=hs3.cell 8;simp only[List.getElem?_toArray,List.getElem?_cons_zero,List.getElem?_cons_succ] at d0 d1 d2 d6 d7 d8;obtain⟨C,hC⟩:=nm (cmpQ (lnV st m pa vs h k) v.2.2.1);have HCE:=Hi (Qao (lnV st m pa vs h k) v.2.2.1);rw[hC] at HCE ⊢;clear hC hb3 hs3 hy3 c3 c4 c5 s1 s2 s3;by_cases h0:C<0
   .
    have e0:decide (C<0)=true:=decide_eq_true h0;have HNO:O (¬fitsTo vs (lnV st m pa vs h) n):=Hi (fun hc=>by
     have h2:=(HSU.o.1 (Qf6 (by omega) hc)).2.1;have h3:=HCE.o.1 h0
     exact absurd h3 (Rat.not_lt.2 h2))
    clear h0;go_wp2;go_ret;exact⟨⟨false,rfl,by simp[HNO.o]⟩,HBW3.o⟩
   .
    have e0:decide (C<0)=false:=decide_eq_false h0;have HGE:O (v.2.2.1<=lnV st m pa vs h k):=Hi (Rat.not_lt.1 (fun hc=>h0 (HCE.o.2 hc)));clear h0;go_wp2_with fail;refine Makes.use (FF.compare (HY.o.below HB3.o) ((FU.o.below HB2.o).below HB3.o) (by omega)) ?_;rintro _ w4 hb4 rfl;have HBW4:=Hi (HBW3.o.trans (hb4.mono HBW3.o.size));obtain⟨D,hD⟩:=nm (cmpQ (lnV st m pa vs h k) v.2.2.2);have HDE:=Hi (Qaz (lnV st m pa vs h k) v.2.2.2);rw[hD] at HDE ⊢;clear hD hb4 d0 d1 d2 d6 d7 d8;by_cases h0:0<D
    .
     have e1:decide (0<D)=true:=decide_eq_true h0;have HNO:O (¬fitsTo vs (lnV st m pa vs h) n):=Hi (fun hc=>by
      have h2:=(HSU.o.1 (Qf6 (by omega) hc)).2.2;have h3:=HDE.o.1 h0
      exact absurd h3 (Rat.not_lt.2 h2))
     clear h0;go_wp2;go_ret;exact⟨⟨false,rfl,by simp[HNO.o]⟩,HBW4.o⟩
    .
     have e1:decide (0<D)=false:=decide_eq_false h0;have HLE:O (lnV st m pa vs h k<=v.2.2.2):=Hi (Rat.not_lt.1 (fun hc=>h0 (HDE.o.2 hc)));clear h0;go_wp2;go_roundw
     case rel=>exact⟨k+1,by omega,by go_num,HSU.o.2 ⟨HF.o,HGE.o,HLE.o⟩,HBW4.o⟩
     case measure=>simp[intOf];omega
  .
   obtain rfl:k=n:=by omega
   go_wp2;go_ret;exact⟨⟨true,rfl,by simp[HF.o]⟩,HB.o⟩
end Go.Proofs.YtldjeecnapgakaaGreatDoor
