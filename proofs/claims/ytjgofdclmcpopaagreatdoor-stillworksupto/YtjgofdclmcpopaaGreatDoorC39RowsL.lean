import Derived.Test.YtjgofdclmcpopaaGreatDoorC38OrdersD
namespace Go.Proofs.YtjgofdclmcpopaaGreatDoor
open Go.RowKit
open Go.Proofs.Tryz
set_option linter.unusedSimpArgs false
set_option linter.unusedVariables false
set_option maxHeartbeats 8000000
set_option maxRecDepth 1000000
theorem Tryz.stairsInfo:(prog.info? 252).map (·.size)=some 3:=by kernel_rfl
theorem okNil{w:World}{W K:Nat}:Oks w W K []:=fun _ h=>by cases h
def Box2(b:Nat)(sv hv:Value)(v:World):Prop:=v.cell? ⟨b,1,none⟩=some sv/\v.cell? ⟨b,2,none⟩=some hv
theorem SW.box2{w u:World}{W K wide:Nat}{L S X:List MR}{hs:List Nat}{lv sv hv b1 b2:Value}(h:SW w u W K wide L S X hs lv sv hv b1 b2):Box2 (w.heap.size+1) b1 b2 u:=⟨h.box.cell 1,h.box.cell 2⟩
theorem Qbh(u:World)(v:Value)(t:TypeId):(u.alloc (.cells #[v] t)).cell? ⟨u.heap.size,0,none⟩=some v:=(SB.new u t #[v]).cell 0
section
variable {w u:World} {W K wide:Nat} {L S X:List MR} {hs:List Nat} {lv sv hv b1 b2:Value}
theorem SW.ord1(h:SW w u W K wide L S X hs lv sv hv b1 b2){r:MR}(hr:r∈ X){ra:Option Addr}(hra:r.a=ra)(k:Nat)(hn:S.length<=1000)(hh:hs.length<=1000):
 ∃sv1 u1 hv1 u2,(Builtin.append_ #[186,186] 186 #[sv,.slice (some ⟨u.heap.size,0,none⟩) 1 1]).run prog (u.alloc (.cells #[.slice ra W r.cap] 190))=.ok sv1 u1/\
  (Builtin.append_ #[181,181] 181 #[hv,.slice (some ⟨u1.heap.size,0,none⟩) 1 1]).run prog (u1.alloc (.cells #[.int .i64 (k:Nat)] 3))=.ok hv1 u2/\SW w u1 W K wide L (S++ [r]) X hs lv sv1 hv b1 b2/\SW w u2 W K wide L (S++ [r]) X (hs++ [k]) lv sv1 hv1 b1 b2:=by
 have h1:=h.alloc (.cells #[.slice ra W r.cap] 190);obtain⟨sv1,u1,e1,s1,_,_⟩:=h1.app1 (s:=r) (nb:=u.heap.size) (c:=1) (by rw[Qbh,MR.val,(h.okX r hr).len,hra]) (h1.okX r hr) hn 186;obtain⟨hv1,u2,e2,s2⟩:=(s1.alloc (.cells #[.int .i64 (k:Nat)] 3)).app2 (k:=k) (nb:=u1.heap.size) (c:=1) (Qbh _ _ _) hh 181;exact⟨sv1,u1,hv1,u2,e1,e2,s1,s2⟩
theorem SW.ord2(h:SW w u W K wide L S X hs lv sv hv b1 b2){r:MR}(hr:r∈ X){ra:Option Addr}(hra:r.a=ra)(k:Nat)(hn:S.length<=1000)(hh:hs.length<=1000):
 ∃sv1 u1 hv1 u2,(Builtin.append_ #[186,186] 186 #[sv,.slice (some ⟨u.heap.size,0,none⟩) 1 1]).run prog ((u.alloc (.cells #[.slice ra W r.cap] 190)).alloc (.cells #[.int .i64 (k:Nat)] 3))=.ok sv1 u1/\
  (Builtin.append_ #[181,181] 181 #[hv,.slice (some ⟨u.heap.size+1,0,none⟩) 1 1]).run prog u1=.ok hv1 u2/\SW w u1 W K wide L (S++ [r]) X hs lv sv1 hv b1 b2/\SW w u2 W K wide L (S++ [r]) X (hs++ [k]) lv sv1 hv1 b1 b2:=by
 have h0:=h.alloc (.cells #[.slice ra W r.cap] 190);have h1:=h0.alloc (.cells #[.int .i64 (k:Nat)] 3);have hc:((u.alloc (.cells #[.slice ra W r.cap] 190)).alloc (.cells #[.int .i64 (k:Nat)] 3)).cell? ⟨u.heap.size,0,none⟩=some (.slice ra W r.cap):=
  (((Below.refl _ (u.alloc (.cells #[.slice ra W r.cap] 190))).alloc lZ _).cell (p:=⟨u.heap.size,0,none⟩) (by rw[World.size_alloc];exact Nat.lt_succ_self _)).trans (Qbh _ _ _)
 obtain⟨sv1,u1,e1,s1,_,hint⟩:=h1.app1 (s:=r) (nb:=u.heap.size) (c:=1) (by rw[hc,MR.val,(h.okX r hr).len,hra]) (h1.okX r hr) hn 186;have hk2:=hint _ _ _ (Qbh (u.alloc (.cells #[.slice ra W r.cap] 190)) (.int .i64 (k:Nat)) 3);rw[World.size_alloc] at hk2;obtain⟨hv1,u2,e2,s2⟩:=s1.app2 (k:=k) (nb:=u.heap.size+1) (c:=1) hk2 hh 181;exact⟨sv1,u1,hv1,u2,e1,e2,s1,s2⟩
theorem SW.ord3(h:SW w u W K wide L S X hs lv sv hv b1 b2){r:MR}(hr:r∈ X){ra:Option Addr}(hra:r.a=ra)(k:Nat)(hn:S.length<=1000)(hh:hs.length<=1000):
 ∃sv1 u1 hv1 u2,(Builtin.append_ #[186,186] 186 #[sv,.slice (some ⟨u.heap.size+1,0,none⟩) 1 1]).run prog ((u.alloc (.cells #[.int .i64 (k:Nat)] 3)).alloc (.cells #[.slice ra W r.cap] 190))=.ok sv1 u1/\
  (Builtin.append_ #[181,181] 181 #[hv,.slice (some ⟨u.heap.size,0,none⟩) 1 1]).run prog u1=.ok hv1 u2/\SW w u1 W K wide L (S++ [r]) X hs lv sv1 hv b1 b2/\SW w u2 W K wide L (S++ [r]) X (hs++ [k]) lv sv1 hv1 b1 b2:=by
 have h0:=h.alloc (.cells #[.int .i64 (k:Nat)] 3);have h1:=h0.alloc (.cells #[.slice ra W r.cap] 190);have hc:=Qbh (u.alloc (.cells #[.int .i64 (k:Nat)] 3)) (.slice ra W r.cap) 190;rw[World.size_alloc] at hc;obtain⟨sv1,u1,e1,s1,_,hint⟩:=h1.app1 (s:=r) (nb:=u.heap.size+1) (c:=1) (by rw[hc,MR.val,(h.okX r hr).len,hra]) (h1.okX r hr) hn 186;have hk2:=hint u.heap.size 0 (k:Nat) ((((Below.refl _ (u.alloc (.cells #[.int .i64 (k:Nat)] 3))).alloc lZ _).cell (p:=⟨u.heap.size,0,none⟩) (by rw[World.size_alloc];exact Nat.lt_succ_self _)).trans (Qbh _ _ _));obtain⟨hv1,u2,e2,s2⟩:=s1.app2 (k:=k) (nb:=u.heap.size) (c:=1) hk2 hh 181;exact⟨sv1,u1,hv1,u2,e1,e2,s1,s2⟩
end
theorem Qgk(a:Option Addr)(cap W K wide:Nat)(rs:List MR)(w:World)(I:Nat->List Vec->List Vec->List Nat->Prop)(hI:Going K I)(h:ARow MR.cells w a cap rs)(hok:Oks w W K rs)(hl:rs.length<=1000)(hW:W<=1000)(hwide:wide<=W)(hK0:0<K)(hK:4*K+1<68719476000)(h0:I 0 (rs.map MR.q) [] []):
 Calls prog 193 #[.slice a rs.length cap,.int .i64 wide] w fun e w'=>(∃(L S:List MR) (hs:List Nat) (sv hv:Value),e=.returned (.agg #[.int .i64 wide,sv,hv])/\I wide (L.map MR.q) (S.map MR.q) hs/\S.length<=wide/\hs.length<=wide/\Grow w' w.heap.size 190 1 IsSl sv S.length (S.map MR.val)/\Grow w' w.heap.size 3 1 IsI hv hs.length (headsV hs)/\Oks w' W K S)/\Below w.heap.size w w':=by
 obtain⟨HH,HO,HI,H0⟩:=Ic h hok hI h0;clear h hok hI h0;go_enter func193,ntmps193;obtain⟨V,hV⟩:=nm ((w.alloc (.cells #[.int .i64 0,.slice none 0 0,.slice none 0 0] 252)).alloc (.cells #[.int .i64 wide,.slice none 0 0,.slice none 0 0] 252));have HB0:=Ub hV;have HS0:=Ud hV;have HS1:=Ue hV;have HV:=Hi hV;clear hV;go_wp2_with fail;rw[HV.o];go_fit (Qtm a cap rs V (HH.o.below HB0.o) hl);rintro e w1 ⟨⟨lv,rfl,hg⟩,hb1⟩;have HSW:O (SW w w1 W K wide rs [] [] [] lv (.slice none 0 0) (.slice none 0 0) (.slice none 0 0) (.slice none 0 0)):=Hi
  ⟨HS1.o.below hb1 HS1.o.lt,HS0.o.below hb1 HS0.o.lt,hg.mono HB0.o.size,Grow.nil _ _ _ _ _,Grow.nil _ _ _ _ _,(fun _ _=>by simp[Value.ownBlock]),HO.o.fr ((Fr.of_below HB0.o).trans (Fr.of_below hb1)),(fun _ h=>by cases h),(fun _ h=>by cases h),HB0.o.trans (hb1.mono HB0.o.size),⟨_,_,_,rfl⟩,⟨_,_,_,rfl⟩⟩
 clear hg hb1 HS0 HS1 HB0 HV;go_wp2_with fail;go_loopw [6,17] (fun lw i wr=>∃(k:Nat) (L S:List MR) (hs:List Nat) (sv hv:Value),k<=wide/\i=.int .i64 k/\SW w wr W K wide L S [] hs lw sv hv sv hv/\I k (L.map MR.q) (S.map MR.q) hs/\L.length<=1000/\S.length<=k/\hs.length<=k) (fun _ i _=>wide - (intOf i).toNat)
 case atStart=>exact⟨0,rs,[],[],_,_,Nat.zero_le _,rfl,HSW.o,H0.o,hl,Nat.zero_le _,Nat.zero_le _⟩
 case round=>
  obtain⟨k,L,S,hs,sv,hv,hk,rfl,hS,hi,hLl,hSl,hhl⟩:=hrel;obtain⟨HS,HJ⟩:=Ia hS hi;clear hi;by_cases hlt:k<wide
  .
   obtain⟨a',cap',rfl,hmat,hpos⟩:=hS.left.mat hS.okL;have q1:((k:Int)<(wide:Int)):=by omega
   obtain⟨HP,HM⟩:=Ia hpos hmat;clear hS hmat hpos;go_wp2_with fail;go_fit (Qte a' cap' W k L wr HM.o hLl hW (by omega));rintro e w2 ⟨⟨v,rfl,hp⟩,hb2⟩;have HS2:=Hi (HS.o.below hb2);clear hb2 HM;rcases hp with ⟨rfl,hall⟩|⟨j,r,hj,rfl,hr0⟩
   .
    have HA:=Hi hall;clear hall;go_wp2;go_roundw
    case rel=>exact⟨k+1,L,S,hs,sv,hv,by omega,by go_num,HS2.o,HI.o.skip HJ.o (fun r hr=>by obtain⟨x,hx,rfl⟩:=List.mem_map.1 hr;exact HA.o x hx),hLl,by omega,by omega⟩
    case measure=>simp[intOf];omega
   .
    have hjl:j<L.length:=(gZ hj).1;obtain⟨g,rfl⟩:=HP.o (by omega);obtain⟨HRJ,HR0⟩:=Ia hj hr0;have hrok:=HS2.o.okL r (mO hj);have hrlen:=hrok.len;obtain⟨f,hf⟩:∃f,r.ts[k]?=some f:=⟨r.ts[k]'(by omega),gE (by omega)⟩;obtain⟨rb,ro,hra,_,_,_,_⟩:=hrok.row.at hf;have d:w2.cell? ⟨g,j,none⟩=some (.slice r.a r.ts.length r.cap):=HS2.o.left.cell (by rw[List.getElem?_map,hj];rfl);rw[hra,hrlen] at d;obtain⟨HRA,HF⟩:=Ia hra hf;have q2:((j:Int)<(L.length:Int)):=by omega
    have HD:=Hi (Qtp w2 w.heap.size j (j+1) L.length (.slice (some ⟨g,0,none⟩) L.length cap') (L.map MR.val) HS2.o.left rfl hjl);simp only[Int.natCast_add,Int.natCast_one] at HD;have HRK:=Hi hrok;clear hj hr0 hrok HP hra hf;go_wp2_with fail;go_fit HD.o;rintro e w3 ⟨g',v3,hg,hg3,rfl,hgr,ho⟩;obtain rfl:g=g':=by simpa [Value.ownBlock] using hg
    obtain⟨cap3,rfl,hS3⟩:=(HS2.o.withX (Y:=[r]) (fun x hx=>by
     have e:x=r:=by simpa using hx
     subst e
     exact HRK.o)).erase hg hg3 ho hgr hjl
    have HSTEP:O (I (k+1) (((L.eraseIdx j).map MR.q).map (lessBy k r.q)) ((S++ [r]).map MR.q) (hs++ [k])):=Hi (by
     have:=HI.o.step HJ.o (j:=j) (s:=r.q) (by rw[List.getElem?_map,HRJ.o];rfl) HR0.o;rw[Qgj] at this
     simpa using this)
    have HFIT:O (∀x,x∈ L.eraseIdx j->∀i,Fits (lessBy k r.q x.q i) K):=Hi (fun x hx i=>HI.o.fit HSTEP.o _ (List.mem_map.2 ⟨x.q,List.mem_map.2 ⟨x,hx,rfl⟩,rfl⟩) i);have hL1l:(L.eraseIdx j).length<=1000:=by rw[List.length_eraseIdx,if_pos hjl];omega
    obtain⟨L1,hL1⟩:=nm (L.eraseIdx j);rw[hL1] at hS3 HSTEP HFIT hL1l ⊢;have HS3:=Hi hS3;clear hS3 hg hg3 hgr ho HD HRJ d HS2 HS hL1 q2;go_wp2_with fail;go_loopw [36] (fun i wq=>∃(m:Nat) (Lx:List MR),m<=L1.length/\i=.int .i64 m/\Lx.length=L1.length/\SW w wq W K wide Lx S [r] hs (.slice (some ⟨g,0,none⟩) L1.length cap3) sv hv sv hv/\(∀p x y,L1[p]?=some x->Lx[p]?=some y->y.q=if p<m then lessBy k r.q x.q else x.q)) (fun i _=>L1.length - (intOf i).toNat)
    case atStart=>exact⟨0,L1,Nat.zero_le _,rfl,rfl,HS3.o,fun p x y hx hy=>by rw[hx] at hy;cases hy;simp⟩
    case round=>
     obtain⟨m,Lx,hm,rfl,hxl,hSx,hq⟩:=hrel;obtain⟨HS,HQX⟩:=Ia hSx hq;clear hSx hq HS3;by_cases hml:m<L1.length
     .
      obtain⟨y,hy⟩:∃y,Lx[m]?=some y:=⟨Lx[m]'(by omega),gE (by omega)⟩;obtain⟨x,hx⟩:∃x,L1[m]?=some x:=⟨L1[m],gE hml⟩;have hyq:y.q=x.q:=by have:=HQX.o m x y hx hy;simpa using this
      have hyok:=HS.o.okL y (mO hy);have hrok:=HS.o.okX r (by simp);have hylen:=hyok.len;obtain⟨e,he⟩:∃e,y.ts[k]?=some e:=⟨y.ts[k]'(by omega),gE (by omega)⟩;have hf:=HF.o;obtain⟨yb,yo,hya,hyb,d0,d1,d2⟩:=hyok.row.at he;obtain⟨rb',ro',hra',hrb,z0,z1,z2⟩:=hrok.row.at hf;have hra'':=HRA.o;rw[hra'] at hra'';cases hra'';have ne1:g≠yb:=HS.o.left.frac_ne rfl d0 (hyok.row.get he).1;have ne2:g≠rb:=HS.o.left.frac_ne rfl z0 (hrok.row.get hf).1;obtain⟨hv1,hvf,hvk⟩:=hyok.row.get he;obtain⟨hv2,hvf2,hvk2⟩:=hrok.row.get hf;have hek:=hyok.sz e (mO he);have hfk:=hrok.sz f (mO hf);have c0:wr.cell? ⟨g,m,none⟩=some (.slice y.a W y.cap):=by
       rw[<-hylen];exact HS.o.left.cell (by rw[List.getElem?_map,hy];rfl)
      rw[hya] at c0;obtain⟨HYA,HX,HY,HYQ,HYO,HRO,HV1,HVF,HV2⟩:=Ih hya hx hy hyq hyok hrok hv1 hvf hv2;obtain⟨HVF2,HEQ,HFQ⟩:=Ib hvf2 (MR.q_at he) (MR.q_at hf);have q3:((m:Int)<(L1.length:Int)):=by omega
      have q4:((k:Int)<(W:Int)):=by omega
      obtain⟨HD0,HD1,HD2,HZ0,HZ1,HZ2⟩:=Ie d0 d1 d2 z0 z1 z2;clear hy hx hyq hyok hrok he hf hya hra' hv1 hvf hv2 hvf2 z0 z1 z2;go_wp2_with fail;go_fit (Qb5 HV1.o);rintro e' w4 ⟨rfl,hb4⟩;obtain⟨HB4,HS4⟩:=Ia hb4 (HS.o.below hb4);clear hb4 d0 d1 d2 c0;by_cases h0:e.q=0
      .
       rw[decide_eq_true h0];have HZ:O (x.q k=0):=Hi (by rw[<-HYQ.o,HEQ.o];exact h0);clear h0;go_wp2;go_roundw
       case rel=>
        refine⟨m+1,Lx,by omega,by go_num,hxl,HS4.o,fun p x' y' hx' hy'=>?_⟩;rcases Nat.lt_trichotomy p m with hp|rfl|hp
        . rw[HQX.o p x' y' hx' hy',if_pos hp,if_pos (by omega)]
        .
         obtain rfl:=Option.some.inj (HX.o.symm.trans hx');obtain rfl:=Option.some.inj (HY.o.symm.trans hy');rw[if_pos (by omega),Qts HZ.o];exact HYQ.o
        . rw[HQX.o p x' y' hx' hy',if_neg (by omega),if_neg (by omega)]
       case measure=>simp[intOf];omega
      .
       rw[decide_eq_false h0];clear h0;have hyb4:yb<w4.heap.size:=Nat.lt_of_lt_of_le hyb HB4.o.size;have hrb4:rb<w4.heap.size:=Nat.lt_of_lt_of_le hrb HB4.o.size;obtain⟨K0,K1,K2,R0,R1,R2,HY4,HR4,HU4⟩:=Ih (ce HB4.o hyb HD0.o) (ce HB4.o hyb HD1.o) (ce HB4.o hyb HD2.o) (ce HB4.o hrb HZ0.o) (ce HB4.o hrb HZ1.o) (ce HB4.o hrb HZ2.o) (HYO.o.row.below HB4.o) (HRO.o.row.below HB4.o) (HV1.o.below HB4.o);have HW4:=Hi (HV2.o.below HB4.o);have HB44:O (Below w4.heap.size w4 w4):=Hi bR;go_wp2_with fail;have u0:=ce HB44.o hyb4 K0.o
       obtain⟨u1,u2⟩:=Ja HB44.o hyb4 K1.o K2.o;obtain⟨v0,v1,v2⟩:=Jb HB44.o hrb4 R0.o R1.o R2.o;go_region_held3 (fun v=>v.cell? ⟨yb,yo+k*3,none⟩=some e.x/\v.cell? ⟨yb,yo+k*3+1,none⟩=some e.y/\v.cell? ⟨yb,yo+k*3+2,none⟩=some e.z/\v.cell? ⟨rb,ro+k*3,none⟩=some f.x/\v.cell? ⟨rb,ro+k*3+1,none⟩=some f.y/\v.cell? ⟨rb,ro+k*3+2,none⟩=some f.z) ((first|(simp [*];done)|go_keep)) (first
        |(
         go_at_call 155;apply cM
         first
          |exact Qcn HU4.o HW4.o HVF.o HVF2.o (by omega)
          |exact Qcn (HU4.o.below HB44.o.drew) (HW4.o.below HB44.o.drew) HVF.o HVF2.o (by omega)
          |exact Qcn (HU4.o.below HB44.o.drew.drew) (HW4.o.below HB44.o.drew.drew) HVF.o HVF2.o (by omega)
         rintro e5 w5 ⟨⟨v5,rfl,hv5⟩,hb5⟩;obtain⟨n5,a5,l5,c5,m5,o5,p5,rfl,hv5⟩:=hv5
         first
          |have HB5:O (Below w4.heap.size w4 w5):=Hi hb5
          |have HB5:O (Below w4.heap.size w4 w5):=Hi (bR.drew.trans hb5)
          |have HB5:O (Below w4.heap.size w4 w5):=Hi (bR.drew.drew.trans hb5)
         have HV5:O (FracV w5 (.agg #[.bool n5,.slice a5 l5 c5,.slice m5 o5 p5]) (e.q / f.q)):=Hi ⟨n5,a5,l5,c5,m5,o5,p5,rfl,hv5⟩;clear hv5 hb5;obtain⟨u0,u1,u2⟩:=Jb HB5.o hyb4 K0.o K1.o K2.o;obtain⟨v0,v1,v2⟩:=Jb HB5.o hrb4 R0.o R1.o R2.o
         skip)
        |(
         go_at_call 253;apply cM;(first
           |(
            have HL:=Qgh y.a r.a y.cap r.cap (4*K+1) (e.k+f.k) y.ts r.ts (.bool n5) (.slice a5 l5 c5) (.slice m5 o5 p5) (e.q / f.q) w5 (HY4.o.below HB5.o) (HR4.o.below HB5.o) (by omega) (by omega) HV5.o (HVF.o.div HVF2.o hvk hvk2) (by omega) (fun t ht s hs=>by have:=HYO.o.sz t ht;have:=HRO.o.sz s hs;omega) (by omega);rw[hylen,HYA.o,HRA.o] at HL
            exact HL)
           |(
            have HL:=Qgh y.a r.a y.cap r.cap (4*K+1) (e.k+f.k) y.ts r.ts (.bool n5) (.slice a5 l5 c5) (.slice m5 o5 p5) (e.q / f.q) w5.drew (HY4.o.below HB5.o.drew) (HR4.o.below HB5.o.drew) (by omega) (by omega) (HV5.o.below bR.drew) (HVF.o.div HVF2.o hvk hvk2) (by omega) (fun t ht s hs=>by have:=HYO.o.sz t ht;have:=HRO.o.sz s hs;omega) (by omega);rw[hylen,HYA.o,HRA.o] at HL
            exact HL))
         rintro e6 w6 ⟨⟨g6,us,rfl,hg6,hqb,hmd⟩,hb6⟩
         first
          |have HB6:O (Below w4.heap.size w4 w6):=Hi (HB5.o.trans (hb6.mono HB5.o.size))
          |have HB6:O (Below w4.heap.size w4 w6):=Hi (HB5.o.trans (((bR.drew).trans hb6).mono HB5.o.size))
         obtain⟨HS6,HQB,HMD⟩:=Ib (HS4.o.below HB6.o) hqb hmd;clear hqb hmd hb6 hg6;obtain⟨u0,u1,u2⟩:=Jb HB6.o hyb4 K0.o K1.o K2.o;obtain⟨v0,v1,v2⟩:=Jb HB6.o hrb4 R0.o R1.o R2.o;have fz:=HS6.o.left.free m;have fc:w6.cell? ⟨g,m,none⟩=some y.val:=HS6.o.left.cell (by rw[List.getElem?_map,HY.o];rfl)
         skip))
       all_goals
        go_wp2_with fail;obtain⟨r',hr'v,hr'ok,hr'q⟩:=MOk.made (v:=lessBy k r.q x.q) (K:=K) HQB.o hylen (by rw[hylen];exact HMD.o) hK0 (fun i hi=>by
         show y.q i - qAt r.ts i*(e.q / f.q)=_
         rw[qAt_q,HYQ.o,<-HEQ.o,<-HFQ.o,HYQ.o]
         rfl) (fun i hi=>by
         have h1:x.q i=0:=by rw[<-HYQ.o];exact MR.q_beyond (by omega)
         have h2:r.q i=0:=MR.q_beyond (by omega);unfold lessBy;rw[h1,h2]
         grind) (fun i _=>HFIT.o x (mO HX.o) i)
        refine⟨⟨m+1,Lx.set m r',by omega,by go_num,by rw[List.length_set];exact hxl,?_,fun p x' y' hx' hy'=>?_⟩,?_⟩
        . rw[<-hr'v]
          exact HS6.o.setL hxl.symm (by omega) hr'ok
        .
         rcases Nat.lt_trichotomy p m with hp|rfl|hp
         . rw[List.getElem?_set_ne (by omega)] at hy'
           rw[HQX.o p x' y' hx' hy',if_pos hp,if_pos (by omega)]
         .
          obtain rfl:=Option.some.inj (HX.o.symm.trans hx');rw[List.getElem?_set_self (by omega)] at hy';obtain rfl:=Option.some.inj hy';rw[if_pos (by omega)];exact hr'q
         . rw[List.getElem?_set_ne (by omega)] at hy'
           rw[HQX.o p x' y' hx' hy',if_neg (by omega),if_neg (by omega)]
        . simp[intOf]
          omega
     .
      have hk':m=L1.length:=by omega
      subst hk';have HLX:O (Lx.map MR.q=(L1.map MR.q).map (lessBy k r.q)):=Hi (by
       apply List.ext_getElem?;intro p;simp only[List.getElem?_map];rcases Nat.lt_or_ge p L1.length with hp|hp
       .
        obtain⟨x,hx⟩:∃x,L1[p]?=some x:=⟨L1[p],gE hp⟩;obtain⟨y,hy⟩:∃y,Lx[p]?=some y:=⟨Lx[p]'(by omega),gE (by omega)⟩;rw[hx,hy];simp only[Option.map_some];rw[HQX.o p x y hx hy,if_pos hp]
       . rw[List.getElem?_eq_none (by omega),List.getElem?_eq_none hp]
         rfl)
      have HNX:O (I (k+1) (Lx.map MR.q) ((S++ [r]).map MR.q) (hs++ [k])):=Hi (by rw[HLX.o];exact HSTEP.o);have HN1:O (k+1<=wide):=Hi (by omega);have HN2:O (Lx.length<=1000):=Hi (by omega);have HN3:O ((S++ [r]).length<=k+1):=Hi (by rw[List.length_append];simp;omega);have HN4:O ((hs++ [k]).length<=k+1):=Hi (by rw[List.length_append];simp;omega);have HN5:O (wide - (k+1)<wide - k):=Hi (by omega);have hs1000:S.length<=1000:=by omega
      have hh1000:hs.length<=1000:=by omega
      obtain⟨E,hE⟩:=nm wr.drew;have HSE:O (SW w E W K wide Lx S [r] hs (.slice (some ⟨g,0,none⟩) L1.length cap3) sv hv sv hv):=Hi (by rw[<-hE];exact HS.o.drew);have HEE:=Hi hE;obtain⟨sva,u1a,hva,u2a,e1a,e2a,s1a,s2a⟩:=HSE.o.ord1 (List.mem_singleton.2 rfl) HRA.o k hs1000 hh1000;obtain⟨svb,u1b,hvb,u2b,e1b,e2b,s1b,s2b⟩:=HSE.o.ord2 (List.mem_singleton.2 rfl) HRA.o k hs1000 hh1000;obtain⟨svc,u1c,hvc,u2c,e1c,e2c,s1c,s2c⟩:=HSE.o.ord3 (List.mem_singleton.2 rfl) HRA.o k hs1000 hh1000;obtain⟨H1A,H2A,H1B,H2B,H1C,H2C,HE1A,HE2A,HE1B⟩:=Ih s1a s2a s1b s2b s1c s2c e1a e2a e1b;obtain⟨HE2B,HE1C,HE2C⟩:=Ib e2b e1c e2c;obtain⟨ta1,ta2,rfl,_,_,_⟩:=s2a.rows.slice;obtain⟨sa1,sa2,rfl,_,_,_⟩:=s2a.heads.slice;obtain⟨tb1,tb2,rfl,_,_,_⟩:=s2b.rows.slice;obtain⟨sb1,sb2,rfl,_,_,_⟩:=s2b.heads.slice
      obtain⟨tc1,tc2,rfl,_,_,_⟩:=s2c.rows.slice;obtain⟨sc1,sc2,rfl,_,_,_⟩:=s2c.heads.slice;have hHeld:Box2 (w.heap.size+1) sv hv E:=HSE.o.box2;clear hE e1a e2a s1a s2a e1b e2b s1b s2b e1c e2c s1c s2c HQX hxl hm;go_wp2_with fail;refine AnyDs.begin (S:=Box2 (w.heap.size+1) sv hv) (D:=[11,13]) (by kernel_rfl) ?_;rw[HEE.o];refine AnyDs.take (i:=0) (v:=?_) rfl (by kernel_rfl) (by kernel_rfl) (by kernel_rfl) (by kernel_rfl) (by kernel_rfl) (fun _ _ _ h=>h) (Or.inl ⟨by rfl,?_⟩) hHeld ?_
      rotate_left
      .
       intro wq hSw;obtain⟨hq1,hq2⟩:=hSw
       first|(go_simp;done)|(go_simp;with_reducible rfl)
      (try simp only[Act.put,List.setIfInBounds_toArray,List.set_cons_zero,List.set_cons_succ]);refine AnyDs.take (i:=1) (v:=?_) rfl (by kernel_rfl) (by kernel_rfl) (by kernel_rfl) (by kernel_rfl) (by kernel_rfl) (fun _ _ _ h=>h) (Or.inl ⟨by rfl,?_⟩) hHeld ?_
      rotate_left
      .
       intro wq hSw;obtain⟨hq1,hq2⟩:=hSw
       first|(go_simp;done)|(go_simp;with_reducible rfl)
      (try simp only[Act.put,List.setIfInBounds_toArray,List.set_cons_zero,List.set_cons_succ]);refine AnyDs.take (i:=2) (v:=?_) rfl (by kernel_rfl) (by kernel_rfl) (by kernel_rfl) (by kernel_rfl) (by kernel_rfl) (fun _ _ _ h=>h) (Or.inl ⟨by rfl,?_⟩) hHeld ?_
      rotate_left
      .
       intro wq hSw;obtain⟨hq1,hq2⟩:=hSw
       first|(go_simp;done)|(go_simp;with_reducible rfl)
      (try simp only[Act.put,List.setIfInBounds_toArray,List.set_cons_zero,List.set_cons_succ]);refine AnyDs.take (i:=5) (v:=?_) rfl (by kernel_rfl) (by kernel_rfl) (by kernel_rfl) (by kernel_rfl) (by kernel_rfl) (fun _ _ _ h=>h) (Or.inl ⟨by rfl,?_⟩) hHeld ?_
      rotate_left
      .
       intro wq hSw;obtain⟨hq1,hq2⟩:=hSw
       first|(go_simp;done)|(go_simp;with_reducible rfl)
      (try simp only[Act.put,List.setIfInBounds_toArray,List.set_cons_zero,List.set_cons_succ]);refine AnyDs.take (i:=6) (v:=?_) rfl (by kernel_rfl) (by kernel_rfl) (by kernel_rfl) (by kernel_rfl) (by kernel_rfl) (fun _ _ _ h=>h) (Or.inl ⟨by rfl,?_⟩) hHeld ?_
      rotate_left
      .
       intro wq hSw;obtain⟨hq1,hq2⟩:=hSw
       first|(go_simp;done)|(go_simp;with_reducible rfl)
      (try simp only[Act.put,List.setIfInBounds_toArray,List.set_cons_zero,List.set_cons_succ]);refine AnyDs.takeP (i:=7) (v:=?_) rfl (by kernel_rfl) (by kernel_rfl) (by kernel_rfl) (by kernel_rfl) (fun _ _ _ h=>h) (Or.inl ⟨by rfl,?_⟩) (fun _=>hHeld) ?_
      rotate_left
      .
       intro wq hSw;clear hSw
       first|(go_simp;done)|(go_simp;with_reducible rfl)
      (try simp only[Act.put,List.setIfInBounds_toArray,List.set_cons_zero,List.set_cons_succ]);refine AnyDs.ready (rs:=[3,8]) (by kernel_rfl) (by simp) ?_;refine AllDs.cons (by rfl) ?_ (AllDs.cons (by rfl) ?_ AllDs.nil)
      .
       intro KK hK;go_simp;(try dsimp only);refine hK.out _ _ (fun _ _=>(HSE.o.alloc _).box2) ?_;clear hK KK;(try simp only[Act.put,List.setIfInBounds_toArray,List.set_cons_zero,List.set_cons_succ]);refine AnyDs.ready (rs:=[4,8]) (by kernel_rfl) (by simp) ?_;refine AllDs.cons (by rfl) ?_ (AllDs.cons (by rfl) ?_ AllDs.nil)
       .
        intro KK hK;refine Qbf (t:=186) rfl (.tmp 64) (.tmp 66) rfl (vs:=sv) (vx:=.slice (some ⟨E.heap.size,0,none⟩) 1 1) (by simp[Act.eval]) (by simp[Act.eval]) HE1A.o ?_;(try dsimp only);refine hK.out _ _ (fun _ _=>H1A.o.box2) ?_;clear hK KK;(try simp only[Act.put,List.setIfInBounds_toArray,List.set_cons_zero,List.set_cons_succ]);refine AnyDs.takeP (i:=10) (v:=?_) rfl (by kernel_rfl) (by kernel_rfl) (by kernel_rfl) (by kernel_rfl) (fun _ _ _ h=>h) (Or.inl ⟨by rfl,?_⟩) (fun _=>H1A.o.box2) ?_
        rotate_left
        .
         intro wq hSw;clear hSw
         first|(go_simp;done)|(go_simp;with_reducible rfl)
        (try simp only[Act.put,List.setIfInBounds_toArray,List.set_cons_zero,List.set_cons_succ]);refine AnyDs.ready (rs:=[8]) (by kernel_rfl) (by simp) ?_;refine AllDs.cons (by rfl) ?_ AllDs.nil;intro KK hK;go_simp;(try dsimp only);refine hK.out _ _ (fun _ _=>(H1A.o.alloc _).box2) ?_;clear hK KK;(try simp only[Act.put,List.setIfInBounds_toArray,List.set_cons_zero,List.set_cons_succ]);refine AnyDs.ready (rs:=[9]) (by kernel_rfl) (by simp) ?_;refine AllDs.cons (by rfl) ?_ AllDs.nil;intro KK hK;refine Qbf (t:=181) rfl (.tmp 69) (.tmp 71) rfl (vs:=hv) (vx:=.slice (some ⟨u1a.heap.size,0,none⟩) 1 1) (by simp[Act.eval]) (by simp[Act.eval]) HE2A.o ?_;(try dsimp only);refine hK.out _ _ (fun _ _=>H2A.o.box2) ?_;clear hK KK;(try simp only[Act.put,List.setIfInBounds_toArray,List.set_cons_zero,List.set_cons_succ]);obtain⟨-,x1,-⟩:=zc H2A.o.box
        obtain⟨-,-,x2,-⟩:=zc H2A.o.box;have z1:=H2A.o.box.free 1;have z2:=H2A.o.box.free 2;refine AnyDs.ready (rs:=[11]) (by kernel_rfl) (by simp) ?_;refine AllDs.cons (by rfl) ?_ AllDs.nil;intro KK hK;go_simp;(try dsimp only);refine hK.out _ _ (fun h=>absurd (by decide) h) ?_;clear hK KK;(try simp only[Act.put,List.setIfInBounds_toArray,List.set_cons_zero,List.set_cons_succ]);refine AnyDs.takeP (i:=12) (v:=?_) rfl (by kernel_rfl) (by kernel_rfl) (by kernel_rfl) (by kernel_rfl) (fun _ _ _ h=>h) (Or.inl ⟨by rfl,?_⟩) (fun h=>absurd h (Qf8 (d:=11) (by kernel_rfl) (by kernel_rfl))) ?_
        rotate_left
        .
         intro wq hSw;clear hSw
         first|(go_simp;done)|(go_simp;with_reducible rfl)
        (try simp only[Act.put,List.setIfInBounds_toArray,List.set_cons_zero,List.set_cons_succ]);refine AnyDs.ready (rs:=[13]) (by kernel_rfl) (by simp) ?_;refine AllDs.cons (by rfl) ?_ AllDs.nil;intro KK hK;go_simp;(try dsimp only);refine hK.out _ _ (fun h=>absurd (by decide) h) ?_;clear hK KK;(try simp only[Act.put,List.setIfInBounds_toArray,List.set_cons_zero,List.set_cons_succ]);refine AnyDs.done (by kernel_rfl) ?_ _;clear x1 x2 z1 z2;have hpp:=H2A.o.put.withX okNil;rw[show (S++ [r]).length=S.length+1 by simp,show (hs++ [k]).length=hs.length+1 by simp] at hpp;have HPP:=Hi hpp;clear hpp;go_wp2_with fail;refine⟨⟨k+1,Lx,S++ [r],hs++ [k],_,_,HN1.o,by go_num,HPP.o,HNX.o,HN2.o,HN3.o,HN4.o⟩,?_⟩
        first|exact HN5.o|(simp only[intOf];exact HN5.o)|(simp [intOf];exact HN5.o)
       .
        intro KK hK;go_simp;(try dsimp only);refine hK.out _ _ (fun _ _=>((HSE.o.alloc _).alloc _).box2) ?_;clear hK KK;(try simp only[Act.put,List.setIfInBounds_toArray,List.set_cons_zero,List.set_cons_succ]);refine AnyDs.ready (rs:=[4]) (by kernel_rfl) (by simp) ?_;refine AllDs.cons (by rfl) ?_ AllDs.nil;intro KK hK;refine Qbf (t:=186) rfl (.tmp 64) (.tmp 66) rfl (vs:=sv) (vx:=.slice (some ⟨E.heap.size,0,none⟩) 1 1) (by simp[Act.eval]) (by simp[Act.eval]) HE1B.o ?_;(try dsimp only);refine hK.out _ _ (fun _ _=>H1B.o.box2) ?_;clear hK KK;(try simp only[Act.put,List.setIfInBounds_toArray,List.set_cons_zero,List.set_cons_succ]);refine AnyDs.takeP (i:=10) (v:=?_) rfl (by kernel_rfl) (by kernel_rfl) (by kernel_rfl) (by kernel_rfl) (fun _ _ _ h=>h) (Or.inl ⟨by rfl,?_⟩) (fun _=>H1B.o.box2) ?_
        rotate_left
        .
         intro wq hSw;clear hSw
         first|(go_simp;done)|(go_simp;with_reducible rfl)
        (try simp only[Act.put,List.setIfInBounds_toArray,List.set_cons_zero,List.set_cons_succ]);refine AnyDs.ready (rs:=[9]) (by kernel_rfl) (by simp) ?_;refine AllDs.cons (by rfl) ?_ AllDs.nil;intro KK hK;refine Qbf (t:=181) rfl (.tmp 69) (.tmp 71) rfl (vs:=hv) (vx:=.slice (some ⟨E.heap.size+1,0,none⟩) 1 1) (by simp[Act.eval]) (by simp[Act.eval]) HE2B.o ?_;(try dsimp only);refine hK.out _ _ (fun _ _=>H2B.o.box2) ?_;clear hK KK;(try simp only[Act.put,List.setIfInBounds_toArray,List.set_cons_zero,List.set_cons_succ]);obtain⟨-,x1,x2,-⟩:=zc H2B.o.box;have z1:=H2B.o.box.free 1;have z2:=H2B.o.box.free 2;refine AnyDs.ready (rs:=[11]) (by kernel_rfl) (by simp) ?_;refine AllDs.cons (by rfl) ?_ AllDs.nil;intro KK hK;go_simp;(try dsimp only);refine hK.out _ _ (fun h=>absurd (by decide) h) ?_
        clear hK KK;(try simp only[Act.put,List.setIfInBounds_toArray,List.set_cons_zero,List.set_cons_succ]);refine AnyDs.takeP (i:=12) (v:=?_) rfl (by kernel_rfl) (by kernel_rfl) (by kernel_rfl) (by kernel_rfl) (fun _ _ _ h=>h) (Or.inl ⟨by rfl,?_⟩) (fun h=>absurd h (Qf8 (d:=11) (by kernel_rfl) (by kernel_rfl))) ?_
        rotate_left
        .
         intro wq hSw;clear hSw
         first|(go_simp;done)|(go_simp;with_reducible rfl)
        (try simp only[Act.put,List.setIfInBounds_toArray,List.set_cons_zero,List.set_cons_succ]);refine AnyDs.ready (rs:=[13]) (by kernel_rfl) (by simp) ?_;refine AllDs.cons (by rfl) ?_ AllDs.nil;intro KK hK;go_simp;(try dsimp only);refine hK.out _ _ (fun h=>absurd (by decide) h) ?_;clear hK KK;(try simp only[Act.put,List.setIfInBounds_toArray,List.set_cons_zero,List.set_cons_succ]);refine AnyDs.done (by kernel_rfl) ?_ _;clear x1 x2 z1 z2;have hpp:=H2B.o.put.withX okNil;rw[show (S++ [r]).length=S.length+1 by simp,show (hs++ [k]).length=hs.length+1 by simp] at hpp;have HPP:=Hi hpp;clear hpp;go_wp2_with fail;refine⟨⟨k+1,Lx,S++ [r],hs++ [k],_,_,HN1.o,by go_num,HPP.o,HNX.o,HN2.o,HN3.o,HN4.o⟩,?_⟩
        first|exact HN5.o|(simp only[intOf];exact HN5.o)|(simp [intOf];exact HN5.o)
      .
       intro KK hK;go_simp;(try dsimp only);refine hK.out _ _ (fun _ _=>(HSE.o.alloc _).box2) ?_;clear hK KK;(try simp only[Act.put,List.setIfInBounds_toArray,List.set_cons_zero,List.set_cons_succ]);refine AnyDs.ready (rs:=[3]) (by kernel_rfl) (by simp) ?_;refine AllDs.cons (by rfl) ?_ AllDs.nil;intro KK hK;go_simp;(try dsimp only);refine hK.out _ _ (fun _ _=>((HSE.o.alloc _).alloc _).box2) ?_;clear hK KK;(try simp only[Act.put,List.setIfInBounds_toArray,List.set_cons_zero,List.set_cons_succ]);refine AnyDs.ready (rs:=[4]) (by kernel_rfl) (by simp) ?_;refine AllDs.cons (by rfl) ?_ AllDs.nil;intro KK hK;refine Qbf (t:=186) rfl (.tmp 64) (.tmp 66) rfl (vs:=sv) (vx:=.slice (some ⟨E.heap.size+1,0,none⟩) 1 1) (by simp[Act.eval]) (by simp[Act.eval]) HE1C.o ?_;(try dsimp only);refine hK.out _ _ (fun _ _=>H1C.o.box2) ?_;clear hK KK
       (try simp only[Act.put,List.setIfInBounds_toArray,List.set_cons_zero,List.set_cons_succ]);refine AnyDs.takeP (i:=10) (v:=?_) rfl (by kernel_rfl) (by kernel_rfl) (by kernel_rfl) (by kernel_rfl) (fun _ _ _ h=>h) (Or.inl ⟨by rfl,?_⟩) (fun _=>H1C.o.box2) ?_
       rotate_left
       .
        intro wq hSw;clear hSw
        first|(go_simp;done)|(go_simp;with_reducible rfl)
       (try simp only[Act.put,List.setIfInBounds_toArray,List.set_cons_zero,List.set_cons_succ]);refine AnyDs.ready (rs:=[9]) (by kernel_rfl) (by simp) ?_;refine AllDs.cons (by rfl) ?_ AllDs.nil;intro KK hK;refine Qbf (t:=181) rfl (.tmp 69) (.tmp 71) rfl (vs:=hv) (vx:=.slice (some ⟨E.heap.size,0,none⟩) 1 1) (by simp[Act.eval]) (by simp[Act.eval]) HE2C.o ?_;(try dsimp only);refine hK.out _ _ (fun _ _=>H2C.o.box2) ?_;clear hK KK;(try simp only[Act.put,List.setIfInBounds_toArray,List.set_cons_zero,List.set_cons_succ]);obtain⟨-,x1,x2,-⟩:=zc H2C.o.box;have z1:=H2C.o.box.free 1;have z2:=H2C.o.box.free 2;refine AnyDs.ready (rs:=[11]) (by kernel_rfl) (by simp) ?_;refine AllDs.cons (by rfl) ?_ AllDs.nil;intro KK hK;go_simp;(try dsimp only);refine hK.out _ _ (fun h=>absurd (by decide) h) ?_
       clear hK KK;(try simp only[Act.put,List.setIfInBounds_toArray,List.set_cons_zero,List.set_cons_succ]);refine AnyDs.takeP (i:=12) (v:=?_) rfl (by kernel_rfl) (by kernel_rfl) (by kernel_rfl) (by kernel_rfl) (fun _ _ _ h=>h) (Or.inl ⟨by rfl,?_⟩) (fun h=>absurd h (Qf8 (d:=11) (by kernel_rfl) (by kernel_rfl))) ?_
       rotate_left
       .
        intro wq hSw;clear hSw
        first|(go_simp;done)|(go_simp;with_reducible rfl)
       (try simp only[Act.put,List.setIfInBounds_toArray,List.set_cons_zero,List.set_cons_succ]);refine AnyDs.ready (rs:=[13]) (by kernel_rfl) (by simp) ?_;refine AllDs.cons (by rfl) ?_ AllDs.nil;intro KK hK;go_simp;(try dsimp only);refine hK.out _ _ (fun h=>absurd (by decide) h) ?_;clear hK KK;(try simp only[Act.put,List.setIfInBounds_toArray,List.set_cons_zero,List.set_cons_succ]);refine AnyDs.done (by kernel_rfl) ?_ _;clear x1 x2 z1 z2;have hpp:=H2C.o.put.withX okNil;rw[show (S++ [r]).length=S.length+1 by simp,show (hs++ [k]).length=hs.length+1 by simp] at hpp;have HPP:=Hi hpp;clear hpp;go_wp2_with fail;refine⟨⟨k+1,Lx,S++ [r],hs++ [k],_,_,HN1.o,by go_num,HPP.o,HNX.o,HN2.o,HN3.o,HN4.o⟩,?_⟩
       first|exact HN5.o|(simp only[intOf];exact HN5.o)|(simp [intOf];exact HN5.o)
  .
   have hk':k=wide:=by omega
   subst hk';obtain⟨t1,t2,rfl,_,_,_⟩:=HS.o.rows.slice;obtain⟨s1,s2,rfl,_,_,_⟩:=HS.o.heads.slice;obtain⟨x0,x1,x2,-⟩:=zc HS.o.box;obtain⟨y0,y1,y2,-⟩:=zc HS.o.res;have f0:=HS.o.res.free 0;have f1:=HS.o.res.free 1;have f2:=HS.o.res.free 2;clear hS;go_wp2;obtain⟨e1,e2,e3,e4⟩:=HS.o.done (.int .i64 k) (.slice t1 S.length t2) (.slice s1 hs.length s2)
   refine bodyPost_ret (v:=.agg #[.int .i64 k,.slice t1 S.length t2,.slice s1 hs.length s2]) (results_cell_row rfl _ _ w.heap.size 252 #[.int .i64 k,.slice t1 S.length t2,.slice s1 hs.length s2] (0,0) _ rfl (((HS.o.res.set 0 _).set 1 _).set 2 _) underlying252 rfl Tryz.stairsInfo) rfl ?_;exact⟨⟨L,S,hs,_,_,rfl,HJ.o,by omega,by omega,e1,e2,e3⟩,e4⟩
end Go.Proofs.YtjgofdclmcpopaaGreatDoor
