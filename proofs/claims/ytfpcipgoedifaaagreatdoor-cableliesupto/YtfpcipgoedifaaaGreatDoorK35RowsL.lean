/- package rows: stairsOf. -/
import Derived.Test.YtfpcipgoedifaaaGreatDoorK34OrdersD
namespace Go.Proofs.YtfpcipgoedifaaaGreatDoor
open Go.RowKit
set_option linter.unusedVariables false
set_option linter.unusedSimpArgs false
theorem Tryz.stairsInfo:(Tryz.prog.info? 144).map (·.size)=some 3:=by kernel_rfl
theorem okNil{w:World}{W K:Nat}:Oks w W K []:=fun _ h=>by cases h
def Box2(b:Nat)(sv hv:Value)(v:World):Prop:=v.cell? ⟨b,1,none⟩=some sv/\v.cell? ⟨b,2,none⟩=some hv
theorem SW.box2{w u:World}{W K wide:Nat}{L S X:List MR}{hs:List Nat}{lv sv hv b1 b2:Value}(h:SW w u W K wide L S X hs lv sv hv b1 b2):Box2 (w.heap.size+1) b1 b2 u:=⟨h.box.cell 1,h.box.cell 2⟩
theorem Qbt(u:World)(v:Value)(t:TypeId):(u.alloc (.cells #[v] t)).cell? ⟨u.heap.size,0,none⟩=some v:=(SB.new u t #[v]).cell 0
section
variable {w u:World} {W K wide:Nat} {L S X:List MR} {hs:List Nat} {lv sv hv b1 b2:Value}
theorem SW.ord1(h:SW w u W K wide L S X hs lv sv hv b1 b2){r:MR}(hr:r∈ X){ra:Option Addr}(hra:r.a=ra)(k:Nat)(hn:S.length<=1000)(hh:hs.length<=1000):
 ∃sv1 u1 hv1 u2,(Builtin.append_ #[67,67] 67 #[sv,.slice (some ⟨u.heap.size,0,none⟩) 1 1]).run Tryz.prog (u.alloc (.cells #[.slice ra W r.cap] 70))=.ok sv1 u1/\
  (Builtin.append_ #[106,106] 106 #[hv,.slice (some ⟨u1.heap.size,0,none⟩) 1 1]).run Tryz.prog (u1.alloc (.cells #[.int .i64 (k:Nat)] 3))=.ok hv1 u2/\SW w u1 W K wide L (S++ [r]) X hs lv sv1 hv b1 b2/\SW w u2 W K wide L (S++ [r]) X (hs++ [k]) lv sv1 hv1 b1 b2:=by
 have h1:=h.alloc (.cells #[.slice ra W r.cap] 70);obtain⟨sv1,u1,e1,s1,_,_⟩:=h1.app1 (s:=r) (nb:=u.heap.size) (c:=1) (by rw[Qbt,MR.val,(h.okX r hr).len,hra]) (h1.okX r hr) hn 67;obtain⟨hv1,u2,e2,s2⟩:=(s1.alloc (.cells #[.int .i64 (k:Nat)] 3)).app2 (k:=k) (nb:=u1.heap.size) (c:=1) (Qbt _ _ _) hh 106;exact⟨sv1,u1,hv1,u2,e1,e2,s1,s2⟩
theorem SW.ord2(h:SW w u W K wide L S X hs lv sv hv b1 b2){r:MR}(hr:r∈ X){ra:Option Addr}(hra:r.a=ra)(k:Nat)(hn:S.length<=1000)(hh:hs.length<=1000):
 ∃sv1 u1 hv1 u2,(Builtin.append_ #[67,67] 67 #[sv,.slice (some ⟨u.heap.size,0,none⟩) 1 1]).run Tryz.prog ((u.alloc (.cells #[.slice ra W r.cap] 70)).alloc (.cells #[.int .i64 (k:Nat)] 3))=.ok sv1 u1/\
  (Builtin.append_ #[106,106] 106 #[hv,.slice (some ⟨u.heap.size+1,0,none⟩) 1 1]).run Tryz.prog u1=.ok hv1 u2/\SW w u1 W K wide L (S++ [r]) X hs lv sv1 hv b1 b2/\SW w u2 W K wide L (S++ [r]) X (hs++ [k]) lv sv1 hv1 b1 b2:=by
 have h0:=h.alloc (.cells #[.slice ra W r.cap] 70);have h1:=h0.alloc (.cells #[.int .i64 (k:Nat)] 3);have hc:((u.alloc (.cells #[.slice ra W r.cap] 70)).alloc (.cells #[.int .i64 (k:Nat)] 3)).cell? ⟨u.heap.size,0,none⟩=some (.slice ra W r.cap):=
  (((Below.refl _ (u.alloc (.cells #[.slice ra W r.cap] 70))).alloc lZ _).cell (p:=⟨u.heap.size,0,none⟩) (by rw[World.size_alloc];exact Nat.lt_succ_self _)).trans (Qbt _ _ _)
 obtain⟨sv1,u1,e1,s1,_,hint⟩:=h1.app1 (s:=r) (nb:=u.heap.size) (c:=1) (by rw[hc,MR.val,(h.okX r hr).len,hra]) (h1.okX r hr) hn 67;have hk2:=hint _ _ _ (Qbt (u.alloc (.cells #[.slice ra W r.cap] 70)) (.int .i64 (k:Nat)) 3);rw[World.size_alloc] at hk2;obtain⟨hv1,u2,e2,s2⟩:=s1.app2 (k:=k) (nb:=u.heap.size+1) (c:=1) hk2 hh 106;exact⟨sv1,u1,hv1,u2,e1,e2,s1,s2⟩
theorem SW.ord3(h:SW w u W K wide L S X hs lv sv hv b1 b2){r:MR}(hr:r∈ X){ra:Option Addr}(hra:r.a=ra)(k:Nat)(hn:S.length<=1000)(hh:hs.length<=1000):
 ∃sv1 u1 hv1 u2,(Builtin.append_ #[67,67] 67 #[sv,.slice (some ⟨u.heap.size+1,0,none⟩) 1 1]).run Tryz.prog ((u.alloc (.cells #[.int .i64 (k:Nat)] 3)).alloc (.cells #[.slice ra W r.cap] 70))=.ok sv1 u1/\
  (Builtin.append_ #[106,106] 106 #[hv,.slice (some ⟨u.heap.size,0,none⟩) 1 1]).run Tryz.prog u1=.ok hv1 u2/\SW w u1 W K wide L (S++ [r]) X hs lv sv1 hv b1 b2/\SW w u2 W K wide L (S++ [r]) X (hs++ [k]) lv sv1 hv1 b1 b2:=by
 have h0:=h.alloc (.cells #[.int .i64 (k:Nat)] 3);have h1:=h0.alloc (.cells #[.slice ra W r.cap] 70);have hc:=Qbt (u.alloc (.cells #[.int .i64 (k:Nat)] 3)) (.slice ra W r.cap) 70;rw[World.size_alloc] at hc;obtain⟨sv1,u1,e1,s1,_,hint⟩:=h1.app1 (s:=r) (nb:=u.heap.size+1) (c:=1) (by rw[hc,MR.val,(h.okX r hr).len,hra]) (h1.okX r hr) hn 67;have hk2:=hint u.heap.size 0 (k:Nat) ((((Below.refl _ (u.alloc (.cells #[.int .i64 (k:Nat)] 3))).alloc lZ _).cell (p:=⟨u.heap.size,0,none⟩) (by rw[World.size_alloc];exact Nat.lt_succ_self _)).trans (Qbt _ _ _));obtain⟨hv1,u2,e2,s2⟩:=s1.app2 (k:=k) (nb:=u.heap.size) (c:=1) hk2 hh 106;exact⟨sv1,u1,hv1,u2,e1,e2,s1,s2⟩
end
set_option maxRecDepth 100000 in
set_option maxHeartbeats 8000000 in
theorem Qua(a:Option Addr)(cap W K wide:Nat)(rs:List MR)(w:World)(I:Nat->List Vec->List Vec->List Nat->Prop)(hI:Going K I)(h:ARow MR.cells w a cap rs)(hok:Oks w W K rs)(hl:rs.length<=1000)(hW:W<=1000)(hwide:wide<=W)(hK0:0<K)(hK:4*K+1<68719476000)(h0:I 0 (rs.map MR.q) [] []):
 Calls Tryz.prog 97 #[.slice a rs.length cap,.int .i64 wide] w fun e w'=>(∃(L S:List MR) (hs:List Nat) (sv hv:Value),e=.returned (.agg #[.int .i64 wide,sv,hv])/\I wide (L.map MR.q) (S.map MR.q) hs/\S.length<=wide/\hs.length<=wide/\Grow w' w.heap.size 70 1 IsSl sv S.length (S.map MR.val)/\Grow w' w.heap.size 3 1 IsI hv hs.length (headsV hs)/\Oks w' W K S)/\Below w.heap.size w w':=by
 have HH:=Hi h;have HO:=Hi hok;have HI:=Hi hI;have H0:=Hi h0;clear h hok hI h0;go_enter Tryz.func97,Tryz.ntmps97;obtain⟨V,hV⟩:=nm ((w.alloc (.cells #[.int .i64 0,.slice none 0 0,.slice none 0 0] 144)).alloc (.cells #[.int .i64 wide,.slice none 0 0,.slice none 0 0] 144));have HB0:Hid (Below w.heap.size w V):=Hi (by rw[<-hV];exact Below.new2 w _ _);have HS0:Hid (SB V w.heap.size 144 #[.int .i64 0,.slice none 0 0,.slice none 0 0]):=Hi (by rw[<-hV];exact(SB.new w _ _).alloc _);have HS1:Hid (SB V (w.heap.size+1) 144 #[.int .i64 wide,.slice none 0 0,.slice none 0 0]):=Hi (by rw[<-hV];exact SB.new2 w _ _ _ _);have HV:=Hi hV;clear hV;go_wp2_with fail;rw[HV.out];go_fit (Qt3 a cap rs V (HH.out.below HB0.out) hl);rintro e w1 ⟨⟨lv,rfl,hg⟩,hb1⟩;have HSW:Hid (SW w w1 W K wide rs [] [] [] lv (.slice none 0 0) (.slice none 0 0) (.slice none 0 0) (.slice none 0 0)):=Hi
  ⟨HS1.out.below hb1 HS1.out.lt,HS0.out.below hb1 HS0.out.lt,hg.mono HB0.out.size,Grow.nil _ _ _ _ _,Grow.nil _ _ _ _ _,(fun _ _=>by simp[Value.ownBlock]),HO.out.fr ((Fr.of_below HB0.out).trans (Fr.of_below hb1)),(fun _ h=>by cases h),(fun _ h=>by cases h),HB0.out.trans (hb1.mono HB0.out.size),⟨_,_,_,rfl⟩,⟨_,_,_,rfl⟩⟩
 clear hg hb1 HS0 HS1 HB0 HV;go_wp2_with fail;go_loopw [6,17] (fun lw i wr=>∃(k:Nat) (L S:List MR) (hs:List Nat) (sv hv:Value),k<=wide/\i=.int .i64 k/\SW w wr W K wide L S [] hs lw sv hv sv hv/\I k (L.map MR.q) (S.map MR.q) hs/\L.length<=1000/\S.length<=k/\hs.length<=k) (fun _ i _=>wide - (intOf i).toNat)
 case atStart=>exact⟨0,rs,[],[],_,_,Nat.zero_le _,rfl,HSW.out,H0.out,hl,Nat.zero_le _,Nat.zero_le _⟩
 case round=>
  obtain⟨k,L,S,hs,sv,hv,hk,rfl,hS,hi,hLl,hSl,hhl⟩:=hrel;have HS:=Hi hS;have HJ:=Hi hi;clear hi;by_cases hlt:k<wide
  ·
   obtain⟨a',cap',rfl,hmat,hpos⟩:=hS.left.mat hS.okL;have q1:((k:Int)<(wide:Int)):=by omega
   have HP:=Hi hpos;have HM:=Hi hmat;clear hS hmat hpos;go_wp2_with fail;go_fit (Qtw a' cap' W k L wr HM.out hLl hW (by omega));rintro e w2 ⟨⟨v,rfl,hp⟩,hb2⟩;have HS2:=Hi (HS.out.below hb2);clear hb2 HM;rcases hp with ⟨rfl,hall⟩|⟨j,r,hj,rfl,hr0⟩
   ·
    have HA:=Hi hall;clear hall;go_wp2;go_roundw
    case rel=>exact⟨k+1,L,S,hs,sv,hv,by omega,by go_num,HS2.out,HI.out.skip HJ.out (fun r hr=>by obtain⟨x,hx,rfl⟩:=List.mem_map.1 hr;exact HA.out x hx),hLl,by omega,by omega⟩
    case measure=>simp[intOf];omega
   ·
    have hjl:j<L.length:=(gZ hj).1;obtain⟨g,rfl⟩:=HP.out (by omega);have HRJ:=Hi hj;have HR0:=Hi hr0;have hrok:=HS2.out.okL r (mO hj);have hrlen:=hrok.len;obtain⟨f,hf⟩:∃f,r.ts[k]?=some f:=⟨r.ts[k]'(by omega),gE (by omega)⟩;obtain⟨rb,ro,hra,_,_,_,_⟩:=hrok.row.at hf;have d:w2.cell? ⟨g,j,none⟩=some (.slice r.a r.ts.length r.cap):=HS2.out.left.cell (by rw[List.getElem?_map,hj];rfl);rw[hra,hrlen] at d;have HRA:=Hi hra;have HF:=Hi hf;have q2:((j:Int)<(L.length:Int)):=by omega
    have HD:=Hi (Qt6 w2 w.heap.size j (j+1) L.length (.slice (some ⟨g,0,none⟩) L.length cap') (L.map MR.val) HS2.out.left rfl hjl);simp only[Int.natCast_add,Int.natCast_one] at HD;have HRK:=Hi hrok;clear hj hr0 hrok HP hra hf;go_wp2_with fail;go_fit HD.out;rintro e w3 ⟨g',v3,hg,hg3,rfl,hgr,ho⟩;obtain rfl:g=g':=by simpa [Value.ownBlock] using hg
    obtain⟨cap3,rfl,hS3⟩:=(HS2.out.withX (Y:=[r]) (fun x hx=>by
     have e:x=r:=by simpa using hx
     subst e
     exact HRK.out)).erase hg hg3 ho hgr hjl
    have HSTEP:Hid (I (k+1) (((L.eraseIdx j).map MR.q).map (lessBy k r.q)) ((S++ [r]).map MR.q) (hs++ [k])):=Hi (by
     have:=HI.out.step HJ.out (j:=j) (s:=r.q) (by rw[List.getElem?_map,HRJ.out];rfl) HR0.out;rw[Qgc] at this
     simpa using this)
    have HFIT:Hid (∀x,x∈ L.eraseIdx j->∀i,Fits (lessBy k r.q x.q i) K):=Hi (fun x hx i=>HI.out.fit HSTEP.out _ (List.mem_map.2 ⟨x.q,List.mem_map.2 ⟨x,hx,rfl⟩,rfl⟩) i);have hL1l:(L.eraseIdx j).length<=1000:=by rw[List.length_eraseIdx,if_pos hjl];omega
    obtain⟨L1,hL1⟩:=nm (L.eraseIdx j);rw[hL1] at hS3 HSTEP HFIT hL1l ⊢;have HS3:=Hi hS3;clear hS3 hg hg3 hgr ho HD HRJ d HS2 HS hL1 q2;go_wp2_with fail;go_loopw [36] (fun i wq=>∃(m:Nat) (Lx:List MR),m<=L1.length/\i=.int .i64 m/\Lx.length=L1.length/\SW w wq W K wide Lx S [r] hs (.slice (some ⟨g,0,none⟩) L1.length cap3) sv hv sv hv/\(∀p x y,L1[p]?=some x->Lx[p]?=some y->y.q=if p<m then lessBy k r.q x.q else x.q)) (fun i _=>L1.length - (intOf i).toNat)
    case atStart=>exact⟨0,L1,Nat.zero_le _,rfl,rfl,HS3.out,fun p x y hx hy=>by rw[hx] at hy;cases hy;simp⟩
    case round=>
     obtain⟨m,Lx,hm,rfl,hxl,hSx,hq⟩:=hrel;have HS:=Hi hSx;have HQX:=Hi hq;clear hSx hq HS3;by_cases hml:m<L1.length
     ·
      obtain⟨y,hy⟩:∃y,Lx[m]?=some y:=⟨Lx[m]'(by omega),gE (by omega)⟩;obtain⟨x,hx⟩:∃x,L1[m]?=some x:=⟨L1[m],gE hml⟩;have hyq:y.q=x.q:=by have:=HQX.out m x y hx hy;simpa using this
      have hyok:=HS.out.okL y (mO hy);have hrok:=HS.out.okX r (by simp);have hylen:=hyok.len;obtain⟨e,he⟩:∃e,y.ts[k]?=some e:=⟨y.ts[k]'(by omega),gE (by omega)⟩;have hf:=HF.out;obtain⟨yb,yo,hya,hyb,d0,d1,d2⟩:=hyok.row.at he;obtain⟨rb',ro',hra',hrb,z0,z1,z2⟩:=hrok.row.at hf;have hra'':=HRA.out;rw[hra'] at hra'';cases hra'';have ne1:g≠yb:=HS.out.left.frac_ne rfl d0 (hyok.row.get he).1;have ne2:g≠rb:=HS.out.left.frac_ne rfl z0 (hrok.row.get hf).1;obtain⟨hv1,hvf,hvk⟩:=hyok.row.get he;obtain⟨hv2,hvf2,hvk2⟩:=hrok.row.get hf;have hek:=hyok.sz e (mO he);have hfk:=hrok.sz f (mO hf);have c0:wr.cell? ⟨g,m,none⟩=some (.slice y.a W y.cap):=by
       rw[<-hylen];exact HS.out.left.cell (by rw[List.getElem?_map,hy];rfl)
      rw[hya] at c0;have HYA:=Hi hya;have HX:=Hi hx;have HY:=Hi hy;have HYQ:=Hi hyq;have HYO:=Hi hyok;have HRO:=Hi hrok;have HV1:=Hi hv1;have HVF:=Hi hvf;have HV2:=Hi hv2;have HVF2:=Hi hvf2;have HEQ:=Hi (MR.q_at he);have HFQ:=Hi (MR.q_at hf);have q3:((m:Int)<(L1.length:Int)):=by omega
      have q4:((k:Int)<(W:Int)):=by omega
      have HD0:=Hi d0;have HD1:=Hi d1;have HD2:=Hi d2;have HZ0:=Hi z0;have HZ1:=Hi z1;have HZ2:=Hi z2;clear hy hx hyq hyok hrok he hf hya hra' hv1 hvf hv2 hvf2 z0 z1 z2;go_wp2_with fail;go_fit (Qbn HV1.out);rintro e' w4 ⟨rfl,hb4⟩;have HB4:=Hi hb4;have HS4:=Hi (HS.out.below hb4);clear hb4 d0 d1 d2 c0;by_cases h0:e.q=0
      ·
       rw[decide_eq_true h0];have HZ:Hid (x.q k=0):=Hi (by rw[<-HYQ.out,HEQ.out];exact h0);clear h0;go_wp2;go_roundw
       case rel=>
        refine⟨m+1,Lx,by omega,by go_num,hxl,HS4.out,fun p x' y' hx' hy'=>?_⟩;rcases Nat.lt_trichotomy p m with hp|rfl|hp
        · rw[HQX.out p x' y' hx' hy',if_pos hp,if_pos (by omega)]
        ·
         obtain rfl:=Option.some.inj (HX.out.symm.trans hx');obtain rfl:=Option.some.inj (HY.out.symm.trans hy');rw[if_pos (by omega),Qt9 HZ.out];exact HYQ.out
        · rw[HQX.out p x' y' hx' hy',if_neg (by omega),if_neg (by omega)]
       case measure=>simp[intOf];omega
      ·
       rw[decide_eq_false h0];clear h0;have hyb4:yb<w4.heap.size:=Nat.lt_of_lt_of_le hyb HB4.out.size;have hrb4:rb<w4.heap.size:=Nat.lt_of_lt_of_le hrb HB4.out.size;have K0:=Hi (ce HB4.out hyb HD0.out);have K1:=Hi (ce HB4.out hyb HD1.out);have K2:=Hi (ce HB4.out hyb HD2.out);have R0:=Hi (ce HB4.out hrb HZ0.out);have R1:=Hi (ce HB4.out hrb HZ1.out);have R2:=Hi (ce HB4.out hrb HZ2.out);have HY4:=Hi (HYO.out.row.below HB4.out);have HR4:=Hi (HRO.out.row.below HB4.out);have HU4:=Hi (HV1.out.below HB4.out);have HW4:=Hi (HV2.out.below HB4.out);have HB44:Hid (Below w4.heap.size w4 w4):=Hi bR;go_wp2_with fail;have u0:=ce HB44.out hyb4 K0.out
       have u1:=ce HB44.out hyb4 K1.out;have u2:=ce HB44.out hyb4 K2.out;have v0:=ce HB44.out hrb4 R0.out;have v1:=ce HB44.out hrb4 R1.out;have v2:=ce HB44.out hrb4 R2.out;go_region_held3 (fun v=>v.cell? ⟨yb,yo+k*3,none⟩=some e.x/\v.cell? ⟨yb,yo+k*3+1,none⟩=some e.y/\v.cell? ⟨yb,yo+k*3+2,none⟩=some e.z/\v.cell? ⟨rb,ro+k*3,none⟩=some f.x/\v.cell? ⟨rb,ro+k*3+1,none⟩=some f.y/\v.cell? ⟨rb,ro+k*3+2,none⟩=some f.z) ((first|(simp [*];done)|go_keep)) (first
        |(
         go_at_call 115;apply cM
         first
          |exact Qb4 HU4.out HW4.out HVF.out HVF2.out (by omega)
          |exact Qb4 (HU4.out.below HB44.out.drew) (HW4.out.below HB44.out.drew) HVF.out HVF2.out (by omega)
          |exact Qb4 (HU4.out.below HB44.out.drew.drew) (HW4.out.below HB44.out.drew.drew) HVF.out HVF2.out (by omega)
         rintro e5 w5 ⟨⟨v5,rfl,hv5⟩,hb5⟩;obtain⟨n5,a5,l5,c5,m5,o5,p5,rfl,hv5⟩:=hv5
         first
          |have HB5:Hid (Below w4.heap.size w4 w5):=Hi hb5
          |have HB5:Hid (Below w4.heap.size w4 w5):=Hi (bR.drew.trans hb5)
          |have HB5:Hid (Below w4.heap.size w4 w5):=Hi (bR.drew.drew.trans hb5)
         have HV5:Hid (FracV w5 (.agg #[.bool n5,.slice a5 l5 c5,.slice m5 o5 p5]) (e.q / f.q)):=Hi ⟨n5,a5,l5,c5,m5,o5,p5,rfl,hv5⟩;clear hv5 hb5;have u0:=ce HB5.out hyb4 K0.out;have u1:=ce HB5.out hyb4 K1.out;have u2:=ce HB5.out hyb4 K2.out;have v0:=ce HB5.out hrb4 R0.out;have v1:=ce HB5.out hrb4 R1.out;have v2:=ce HB5.out hrb4 R2.out
         skip)
        |(
         go_at_call 114;apply cM;(first
           |(
            have HL:=Qeg y.a r.a y.cap r.cap (4*K+1) (e.k+f.k) y.ts r.ts (.bool n5) (.slice a5 l5 c5) (.slice m5 o5 p5) (e.q / f.q) w5 (HY4.out.below HB5.out) (HR4.out.below HB5.out) (by omega) (by omega) HV5.out (HVF.out.div HVF2.out hvk hvk2) (by omega) (fun t ht s hs=>by have:=HYO.out.sz t ht;have:=HRO.out.sz s hs;omega) (by omega);rw[hylen,HYA.out,HRA.out] at HL
            exact HL)
           |(
            have HL:=Qeg y.a r.a y.cap r.cap (4*K+1) (e.k+f.k) y.ts r.ts (.bool n5) (.slice a5 l5 c5) (.slice m5 o5 p5) (e.q / f.q) w5.drew (HY4.out.below HB5.out.drew) (HR4.out.below HB5.out.drew) (by omega) (by omega) (HV5.out.below bR.drew) (HVF.out.div HVF2.out hvk hvk2) (by omega) (fun t ht s hs=>by have:=HYO.out.sz t ht;have:=HRO.out.sz s hs;omega) (by omega);rw[hylen,HYA.out,HRA.out] at HL
            exact HL))
         rintro e6 w6 ⟨⟨g6,us,rfl,hg6,hqb,hmd⟩,hb6⟩
         first
          |have HB6:Hid (Below w4.heap.size w4 w6):=Hi (HB5.out.trans (hb6.mono HB5.out.size))
          |have HB6:Hid (Below w4.heap.size w4 w6):=Hi (HB5.out.trans (((bR.drew).trans hb6).mono HB5.out.size))
         have HS6:=Hi (HS4.out.below HB6.out);have HQB:=Hi hqb;have HMD:=Hi hmd;clear hqb hmd hb6 hg6;have u0:=ce HB6.out hyb4 K0.out;have u1:=ce HB6.out hyb4 K1.out;have u2:=ce HB6.out hyb4 K2.out;have v0:=ce HB6.out hrb4 R0.out;have v1:=ce HB6.out hrb4 R1.out;have v2:=ce HB6.out hrb4 R2.out;have fz:=HS6.out.left.free m;have fc:w6.cell? ⟨g,m,none⟩=some y.val:=HS6.out.left.cell (by rw[List.getElem?_map,HY.out];rfl)
         skip))
       all_goals
        go_wp2_with fail;obtain⟨r',hr'v,hr'ok,hr'q⟩:=MOk.made (v:=lessBy k r.q x.q) (K:=K) HQB.out hylen (by rw[hylen];exact HMD.out) hK0 (fun i hi=>by
         show y.q i - qAt r.ts i*(e.q / f.q)=_
         rw[qAt_q,HYQ.out,<-HEQ.out,<-HFQ.out,HYQ.out]
         rfl) (fun i hi=>by
         have h1:x.q i=0:=by rw[<-HYQ.out];exact MR.q_beyond (by omega)
         have h2:r.q i=0:=MR.q_beyond (by omega);unfold lessBy;rw[h1,h2]
         grind) (fun i _=>HFIT.out x (mO HX.out) i)
        refine⟨⟨m+1,Lx.set m r',by omega,by go_num,by rw[List.length_set];exact hxl,?_,fun p x' y' hx' hy'=>?_⟩,?_⟩
        · rw[<-hr'v]
          exact HS6.out.setL hxl.symm (by omega) hr'ok
        ·
         rcases Nat.lt_trichotomy p m with hp|rfl|hp
         · rw[List.getElem?_set_ne (by omega)] at hy'
           rw[HQX.out p x' y' hx' hy',if_pos hp,if_pos (by omega)]
         ·
          obtain rfl:=Option.some.inj (HX.out.symm.trans hx');rw[List.getElem?_set_self (by omega)] at hy';obtain rfl:=Option.some.inj hy';rw[if_pos (by omega)];exact hr'q
         · rw[List.getElem?_set_ne (by omega)] at hy'
           rw[HQX.out p x' y' hx' hy',if_neg (by omega),if_neg (by omega)]
        · simp[intOf]
          omega
     ·
      have hk':m=L1.length:=by omega
      subst hk';have HLX:Hid (Lx.map MR.q=(L1.map MR.q).map (lessBy k r.q)):=Hi (by
       apply List.ext_getElem?;intro p;simp only[List.getElem?_map];rcases Nat.lt_or_ge p L1.length with hp|hp
       ·
        obtain⟨x,hx⟩:∃x,L1[p]?=some x:=⟨L1[p],gE hp⟩;obtain⟨y,hy⟩:∃y,Lx[p]?=some y:=⟨Lx[p]'(by omega),gE (by omega)⟩;rw[hx,hy];simp only[Option.map_some];rw[HQX.out p x y hx hy,if_pos hp]
       · rw[List.getElem?_eq_none (by omega),List.getElem?_eq_none hp]
         rfl)
      have HNX:Hid (I (k+1) (Lx.map MR.q) ((S++ [r]).map MR.q) (hs++ [k])):=Hi (by rw[HLX.out];exact HSTEP.out);have HN1:Hid (k+1<=wide):=Hi (by omega);have HN2:Hid (Lx.length<=1000):=Hi (by omega);have HN3:Hid ((S++ [r]).length<=k+1):=Hi (by rw[List.length_append];simp;omega);have HN4:Hid ((hs++ [k]).length<=k+1):=Hi (by rw[List.length_append];simp;omega);have HN5:Hid (wide - (k+1)<wide - k):=Hi (by omega);have hs1000:S.length<=1000:=by omega
      have hh1000:hs.length<=1000:=by omega
      obtain⟨E,hE⟩:=nm wr.drew;have HSE:Hid (SW w E W K wide Lx S [r] hs (.slice (some ⟨g,0,none⟩) L1.length cap3) sv hv sv hv):=Hi (by rw[<-hE];exact HS.out.drew);have HEE:=Hi hE;obtain⟨sva,u1a,hva,u2a,e1a,e2a,s1a,s2a⟩:=HSE.out.ord1 (List.mem_singleton.2 rfl) HRA.out k hs1000 hh1000;obtain⟨svb,u1b,hvb,u2b,e1b,e2b,s1b,s2b⟩:=HSE.out.ord2 (List.mem_singleton.2 rfl) HRA.out k hs1000 hh1000;obtain⟨svc,u1c,hvc,u2c,e1c,e2c,s1c,s2c⟩:=HSE.out.ord3 (List.mem_singleton.2 rfl) HRA.out k hs1000 hh1000;have H1A:=Hi s1a;have H2A:=Hi s2a;have H1B:=Hi s1b;have H2B:=Hi s2b;have H1C:=Hi s1c;have H2C:=Hi s2c;have HE1A:=Hi e1a;have HE2A:=Hi e2a;have HE1B:=Hi e1b;have HE2B:=Hi e2b;have HE1C:=Hi e1c;have HE2C:=Hi e2c;obtain⟨ta1,ta2,rfl,_,_,_⟩:=s2a.rows.slice;obtain⟨sa1,sa2,rfl,_,_,_⟩:=s2a.heads.slice;obtain⟨tb1,tb2,rfl,_,_,_⟩:=s2b.rows.slice;obtain⟨sb1,sb2,rfl,_,_,_⟩:=s2b.heads.slice
      obtain⟨tc1,tc2,rfl,_,_,_⟩:=s2c.rows.slice;obtain⟨sc1,sc2,rfl,_,_,_⟩:=s2c.heads.slice;have hHeld:Box2 (w.heap.size+1) sv hv E:=HSE.out.box2;clear hE e1a e2a s1a s2a e1b e2b s1b s2b e1c e2c s1c s2c HQX hxl hm;go_wp2_with fail;refine AnyDs.begin (S:=Box2 (w.heap.size+1) sv hv) (D:=[11,13]) (by kernel_rfl) ?_;rw[HEE.out];refine AnyDs.take (i:=0) (v:=?_) rfl (by kernel_rfl) (by kernel_rfl) (by kernel_rfl) (by kernel_rfl) (by kernel_rfl) (fun _ _ _ h=>h) (Or.inl ⟨by rfl,?_⟩) hHeld ?_
      rotate_left
      ·
       intro wq hSw;obtain⟨hq1,hq2⟩:=hSw
       first|(go_simp;done)|(go_simp;with_reducible rfl)
      (try simp only[Act.put,List.setIfInBounds_toArray,List.set_cons_zero,List.set_cons_succ]);refine AnyDs.take (i:=1) (v:=?_) rfl (by kernel_rfl) (by kernel_rfl) (by kernel_rfl) (by kernel_rfl) (by kernel_rfl) (fun _ _ _ h=>h) (Or.inl ⟨by rfl,?_⟩) hHeld ?_
      rotate_left
      ·
       intro wq hSw;obtain⟨hq1,hq2⟩:=hSw
       first|(go_simp;done)|(go_simp;with_reducible rfl)
      (try simp only[Act.put,List.setIfInBounds_toArray,List.set_cons_zero,List.set_cons_succ]);refine AnyDs.take (i:=2) (v:=?_) rfl (by kernel_rfl) (by kernel_rfl) (by kernel_rfl) (by kernel_rfl) (by kernel_rfl) (fun _ _ _ h=>h) (Or.inl ⟨by rfl,?_⟩) hHeld ?_
      rotate_left
      ·
       intro wq hSw;obtain⟨hq1,hq2⟩:=hSw
       first|(go_simp;done)|(go_simp;with_reducible rfl)
      (try simp only[Act.put,List.setIfInBounds_toArray,List.set_cons_zero,List.set_cons_succ]);refine AnyDs.take (i:=5) (v:=?_) rfl (by kernel_rfl) (by kernel_rfl) (by kernel_rfl) (by kernel_rfl) (by kernel_rfl) (fun _ _ _ h=>h) (Or.inl ⟨by rfl,?_⟩) hHeld ?_
      rotate_left
      ·
       intro wq hSw;obtain⟨hq1,hq2⟩:=hSw
       first|(go_simp;done)|(go_simp;with_reducible rfl)
      (try simp only[Act.put,List.setIfInBounds_toArray,List.set_cons_zero,List.set_cons_succ]);refine AnyDs.take (i:=6) (v:=?_) rfl (by kernel_rfl) (by kernel_rfl) (by kernel_rfl) (by kernel_rfl) (by kernel_rfl) (fun _ _ _ h=>h) (Or.inl ⟨by rfl,?_⟩) hHeld ?_
      rotate_left
      ·
       intro wq hSw;obtain⟨hq1,hq2⟩:=hSw
       first|(go_simp;done)|(go_simp;with_reducible rfl)
      (try simp only[Act.put,List.setIfInBounds_toArray,List.set_cons_zero,List.set_cons_succ]);refine AnyDs.takeP (i:=7) (v:=?_) rfl (by kernel_rfl) (by kernel_rfl) (by kernel_rfl) (by kernel_rfl) (fun _ _ _ h=>h) (Or.inl ⟨by rfl,?_⟩) (fun _=>hHeld) ?_
      rotate_left
      ·
       intro wq hSw;clear hSw
       first|(go_simp;done)|(go_simp;with_reducible rfl)
      (try simp only[Act.put,List.setIfInBounds_toArray,List.set_cons_zero,List.set_cons_succ]);refine AnyDs.ready (rs:=[3,8]) (by kernel_rfl) (by simp) ?_;refine AllDs.cons (by rfl) ?_ (AllDs.cons (by rfl) ?_ AllDs.nil)
      ·
       intro KK hK;go_simp;(try dsimp only);refine hK.out _ _ (fun _ _=>(HSE.out.alloc _).box2) ?_;clear hK KK;(try simp only[Act.put,List.setIfInBounds_toArray,List.set_cons_zero,List.set_cons_succ]);refine AnyDs.ready (rs:=[4,8]) (by kernel_rfl) (by simp) ?_;refine AllDs.cons (by rfl) ?_ (AllDs.cons (by rfl) ?_ AllDs.nil)
       ·
        intro KK hK;refine Qbp (t:=67) rfl (.tmp 64) (.tmp 66) rfl (vs:=sv) (vx:=.slice (some ⟨E.heap.size,0,none⟩) 1 1) (by simp[Act.eval]) (by simp[Act.eval]) HE1A.out ?_;(try dsimp only);refine hK.out _ _ (fun _ _=>H1A.out.box2) ?_;clear hK KK;(try simp only[Act.put,List.setIfInBounds_toArray,List.set_cons_zero,List.set_cons_succ]);refine AnyDs.takeP (i:=10) (v:=?_) rfl (by kernel_rfl) (by kernel_rfl) (by kernel_rfl) (by kernel_rfl) (fun _ _ _ h=>h) (Or.inl ⟨by rfl,?_⟩) (fun _=>H1A.out.box2) ?_
        rotate_left
        ·
         intro wq hSw;clear hSw
         first|(go_simp;done)|(go_simp;with_reducible rfl)
        (try simp only[Act.put,List.setIfInBounds_toArray,List.set_cons_zero,List.set_cons_succ]);refine AnyDs.ready (rs:=[8]) (by kernel_rfl) (by simp) ?_;refine AllDs.cons (by rfl) ?_ AllDs.nil;intro KK hK;go_simp;(try dsimp only);refine hK.out _ _ (fun _ _=>(H1A.out.alloc _).box2) ?_;clear hK KK;(try simp only[Act.put,List.setIfInBounds_toArray,List.set_cons_zero,List.set_cons_succ]);refine AnyDs.ready (rs:=[9]) (by kernel_rfl) (by simp) ?_;refine AllDs.cons (by rfl) ?_ AllDs.nil;intro KK hK;refine Qbp (t:=106) rfl (.tmp 69) (.tmp 71) rfl (vs:=hv) (vx:=.slice (some ⟨u1a.heap.size,0,none⟩) 1 1) (by simp[Act.eval]) (by simp[Act.eval]) HE2A.out ?_;(try dsimp only);refine hK.out _ _ (fun _ _=>H2A.out.box2) ?_;clear hK KK;(try simp only[Act.put,List.setIfInBounds_toArray,List.set_cons_zero,List.set_cons_succ]);obtain⟨-,x1,-⟩:=zc H2A.out.box
        obtain⟨-,-,x2,-⟩:=zc H2A.out.box;have z1:=H2A.out.box.free 1;have z2:=H2A.out.box.free 2;refine AnyDs.ready (rs:=[11]) (by kernel_rfl) (by simp) ?_;refine AllDs.cons (by rfl) ?_ AllDs.nil;intro KK hK;go_simp;(try dsimp only);refine hK.out _ _ (fun h=>absurd (by decide) h) ?_;clear hK KK;(try simp only[Act.put,List.setIfInBounds_toArray,List.set_cons_zero,List.set_cons_succ]);refine AnyDs.takeP (i:=12) (v:=?_) rfl (by kernel_rfl) (by kernel_rfl) (by kernel_rfl) (by kernel_rfl) (fun _ _ _ h=>h) (Or.inl ⟨by rfl,?_⟩) (fun h=>absurd h (Qfu (d:=11) (by kernel_rfl) (by kernel_rfl))) ?_
        rotate_left
        ·
         intro wq hSw;clear hSw
         first|(go_simp;done)|(go_simp;with_reducible rfl)
        (try simp only[Act.put,List.setIfInBounds_toArray,List.set_cons_zero,List.set_cons_succ]);refine AnyDs.ready (rs:=[13]) (by kernel_rfl) (by simp) ?_;refine AllDs.cons (by rfl) ?_ AllDs.nil;intro KK hK;go_simp;(try dsimp only);refine hK.out _ _ (fun h=>absurd (by decide) h) ?_;clear hK KK;(try simp only[Act.put,List.setIfInBounds_toArray,List.set_cons_zero,List.set_cons_succ]);refine AnyDs.done (by kernel_rfl) ?_ _;clear x1 x2 z1 z2;have hpp:=H2A.out.put.withX okNil;rw[show (S++ [r]).length=S.length+1 by simp,show (hs++ [k]).length=hs.length+1 by simp] at hpp;have HPP:=Hi hpp;clear hpp;go_wp2_with fail;refine⟨⟨k+1,Lx,S++ [r],hs++ [k],_,_,HN1.out,by go_num,HPP.out,HNX.out,HN2.out,HN3.out,HN4.out⟩,?_⟩
        first|exact HN5.out|(simp only[intOf];exact HN5.out)|(simp [intOf];exact HN5.out)
       ·
        intro KK hK;go_simp;(try dsimp only);refine hK.out _ _ (fun _ _=>((HSE.out.alloc _).alloc _).box2) ?_;clear hK KK;(try simp only[Act.put,List.setIfInBounds_toArray,List.set_cons_zero,List.set_cons_succ]);refine AnyDs.ready (rs:=[4]) (by kernel_rfl) (by simp) ?_;refine AllDs.cons (by rfl) ?_ AllDs.nil;intro KK hK;refine Qbp (t:=67) rfl (.tmp 64) (.tmp 66) rfl (vs:=sv) (vx:=.slice (some ⟨E.heap.size,0,none⟩) 1 1) (by simp[Act.eval]) (by simp[Act.eval]) HE1B.out ?_;(try dsimp only);refine hK.out _ _ (fun _ _=>H1B.out.box2) ?_;clear hK KK;(try simp only[Act.put,List.setIfInBounds_toArray,List.set_cons_zero,List.set_cons_succ]);refine AnyDs.takeP (i:=10) (v:=?_) rfl (by kernel_rfl) (by kernel_rfl) (by kernel_rfl) (by kernel_rfl) (fun _ _ _ h=>h) (Or.inl ⟨by rfl,?_⟩) (fun _=>H1B.out.box2) ?_
        rotate_left
        ·
         intro wq hSw;clear hSw
         first|(go_simp;done)|(go_simp;with_reducible rfl)
        (try simp only[Act.put,List.setIfInBounds_toArray,List.set_cons_zero,List.set_cons_succ]);refine AnyDs.ready (rs:=[9]) (by kernel_rfl) (by simp) ?_;refine AllDs.cons (by rfl) ?_ AllDs.nil;intro KK hK;refine Qbp (t:=106) rfl (.tmp 69) (.tmp 71) rfl (vs:=hv) (vx:=.slice (some ⟨E.heap.size+1,0,none⟩) 1 1) (by simp[Act.eval]) (by simp[Act.eval]) HE2B.out ?_;(try dsimp only);refine hK.out _ _ (fun _ _=>H2B.out.box2) ?_;clear hK KK;(try simp only[Act.put,List.setIfInBounds_toArray,List.set_cons_zero,List.set_cons_succ]);obtain⟨-,x1,x2,-⟩:=zc H2B.out.box;have z1:=H2B.out.box.free 1;have z2:=H2B.out.box.free 2;refine AnyDs.ready (rs:=[11]) (by kernel_rfl) (by simp) ?_;refine AllDs.cons (by rfl) ?_ AllDs.nil;intro KK hK;go_simp;(try dsimp only);refine hK.out _ _ (fun h=>absurd (by decide) h) ?_
        clear hK KK;(try simp only[Act.put,List.setIfInBounds_toArray,List.set_cons_zero,List.set_cons_succ]);refine AnyDs.takeP (i:=12) (v:=?_) rfl (by kernel_rfl) (by kernel_rfl) (by kernel_rfl) (by kernel_rfl) (fun _ _ _ h=>h) (Or.inl ⟨by rfl,?_⟩) (fun h=>absurd h (Qfu (d:=11) (by kernel_rfl) (by kernel_rfl))) ?_
        rotate_left
        ·
         intro wq hSw;clear hSw
         first|(go_simp;done)|(go_simp;with_reducible rfl)
        (try simp only[Act.put,List.setIfInBounds_toArray,List.set_cons_zero,List.set_cons_succ]);refine AnyDs.ready (rs:=[13]) (by kernel_rfl) (by simp) ?_;refine AllDs.cons (by rfl) ?_ AllDs.nil;intro KK hK;go_simp;(try dsimp only);refine hK.out _ _ (fun h=>absurd (by decide) h) ?_;clear hK KK;(try simp only[Act.put,List.setIfInBounds_toArray,List.set_cons_zero,List.set_cons_succ]);refine AnyDs.done (by kernel_rfl) ?_ _;clear x1 x2 z1 z2;have hpp:=H2B.out.put.withX okNil;rw[show (S++ [r]).length=S.length+1 by simp,show (hs++ [k]).length=hs.length+1 by simp] at hpp;have HPP:=Hi hpp;clear hpp;go_wp2_with fail;refine⟨⟨k+1,Lx,S++ [r],hs++ [k],_,_,HN1.out,by go_num,HPP.out,HNX.out,HN2.out,HN3.out,HN4.out⟩,?_⟩
        first|exact HN5.out|(simp only[intOf];exact HN5.out)|(simp [intOf];exact HN5.out)
      ·
       intro KK hK;go_simp;(try dsimp only);refine hK.out _ _ (fun _ _=>(HSE.out.alloc _).box2) ?_;clear hK KK;(try simp only[Act.put,List.setIfInBounds_toArray,List.set_cons_zero,List.set_cons_succ]);refine AnyDs.ready (rs:=[3]) (by kernel_rfl) (by simp) ?_;refine AllDs.cons (by rfl) ?_ AllDs.nil;intro KK hK;go_simp;(try dsimp only);refine hK.out _ _ (fun _ _=>((HSE.out.alloc _).alloc _).box2) ?_;clear hK KK;(try simp only[Act.put,List.setIfInBounds_toArray,List.set_cons_zero,List.set_cons_succ]);refine AnyDs.ready (rs:=[4]) (by kernel_rfl) (by simp) ?_;refine AllDs.cons (by rfl) ?_ AllDs.nil;intro KK hK;refine Qbp (t:=67) rfl (.tmp 64) (.tmp 66) rfl (vs:=sv) (vx:=.slice (some ⟨E.heap.size+1,0,none⟩) 1 1) (by simp[Act.eval]) (by simp[Act.eval]) HE1C.out ?_;(try dsimp only);refine hK.out _ _ (fun _ _=>H1C.out.box2) ?_;clear hK KK
       (try simp only[Act.put,List.setIfInBounds_toArray,List.set_cons_zero,List.set_cons_succ]);refine AnyDs.takeP (i:=10) (v:=?_) rfl (by kernel_rfl) (by kernel_rfl) (by kernel_rfl) (by kernel_rfl) (fun _ _ _ h=>h) (Or.inl ⟨by rfl,?_⟩) (fun _=>H1C.out.box2) ?_
       rotate_left
       ·
        intro wq hSw;clear hSw
        first|(go_simp;done)|(go_simp;with_reducible rfl)
       (try simp only[Act.put,List.setIfInBounds_toArray,List.set_cons_zero,List.set_cons_succ]);refine AnyDs.ready (rs:=[9]) (by kernel_rfl) (by simp) ?_;refine AllDs.cons (by rfl) ?_ AllDs.nil;intro KK hK;refine Qbp (t:=106) rfl (.tmp 69) (.tmp 71) rfl (vs:=hv) (vx:=.slice (some ⟨E.heap.size,0,none⟩) 1 1) (by simp[Act.eval]) (by simp[Act.eval]) HE2C.out ?_;(try dsimp only);refine hK.out _ _ (fun _ _=>H2C.out.box2) ?_;clear hK KK;(try simp only[Act.put,List.setIfInBounds_toArray,List.set_cons_zero,List.set_cons_succ]);obtain⟨-,x1,x2,-⟩:=zc H2C.out.box;have z1:=H2C.out.box.free 1;have z2:=H2C.out.box.free 2;refine AnyDs.ready (rs:=[11]) (by kernel_rfl) (by simp) ?_;refine AllDs.cons (by rfl) ?_ AllDs.nil;intro KK hK;go_simp;(try dsimp only);refine hK.out _ _ (fun h=>absurd (by decide) h) ?_
       clear hK KK;(try simp only[Act.put,List.setIfInBounds_toArray,List.set_cons_zero,List.set_cons_succ]);refine AnyDs.takeP (i:=12) (v:=?_) rfl (by kernel_rfl) (by kernel_rfl) (by kernel_rfl) (by kernel_rfl) (fun _ _ _ h=>h) (Or.inl ⟨by rfl,?_⟩) (fun h=>absurd h (Qfu (d:=11) (by kernel_rfl) (by kernel_rfl))) ?_
       rotate_left
       ·
        intro wq hSw;clear hSw
        first|(go_simp;done)|(go_simp;with_reducible rfl)
       (try simp only[Act.put,List.setIfInBounds_toArray,List.set_cons_zero,List.set_cons_succ]);refine AnyDs.ready (rs:=[13]) (by kernel_rfl) (by simp) ?_;refine AllDs.cons (by rfl) ?_ AllDs.nil;intro KK hK;go_simp;(try dsimp only);refine hK.out _ _ (fun h=>absurd (by decide) h) ?_;clear hK KK;(try simp only[Act.put,List.setIfInBounds_toArray,List.set_cons_zero,List.set_cons_succ]);refine AnyDs.done (by kernel_rfl) ?_ _;clear x1 x2 z1 z2;have hpp:=H2C.out.put.withX okNil;rw[show (S++ [r]).length=S.length+1 by simp,show (hs++ [k]).length=hs.length+1 by simp] at hpp;have HPP:=Hi hpp;clear hpp;go_wp2_with fail;refine⟨⟨k+1,Lx,S++ [r],hs++ [k],_,_,HN1.out,by go_num,HPP.out,HNX.out,HN2.out,HN3.out,HN4.out⟩,?_⟩
       first|exact HN5.out|(simp only[intOf];exact HN5.out)|(simp [intOf];exact HN5.out)
  ·
   have hk':k=wide:=by omega
   subst hk';obtain⟨t1,t2,rfl,_,_,_⟩:=HS.out.rows.slice;obtain⟨s1,s2,rfl,_,_,_⟩:=HS.out.heads.slice;obtain⟨x0,x1,x2,-⟩:=zc HS.out.box;obtain⟨y0,y1,y2,-⟩:=zc HS.out.res;have f0:=HS.out.res.free 0;have f1:=HS.out.res.free 1;have f2:=HS.out.res.free 2;clear hS;go_wp2;obtain⟨e1,e2,e3,e4⟩:=HS.out.done (.int .i64 k) (.slice t1 S.length t2) (.slice s1 hs.length s2)
   refine bodyPost_ret (v:=.agg #[.int .i64 k,.slice t1 S.length t2,.slice s1 hs.length s2]) (results_cell_row rfl _ _ w.heap.size 144 #[.int .i64 k,.slice t1 S.length t2,.slice s1 hs.length s2] (0,0) _ rfl (((HS.out.res.set 0 _).set 1 _).set 2 _) Tryz.underlying144 rfl Tryz.stairsInfo) rfl ?_;exact⟨⟨L,S,hs,_,_,rfl,HJ.out,by omega,by omega,e1,e2,e3⟩,e4⟩
end Go.Proofs.YtfpcipgoedifaaaGreatDoor
