import Derived.Test.YtppkmifkpjkgpaaGreatDoorC31OrdersP
namespace Go.Proofs.YtppkmifkpjkgpaaGreatDoor
open Go.RowKit
open Go.Proofs.Tryz
set_option linter.unusedSimpArgs false
set_option linter.unusedVariables false
set_option maxHeartbeats 8000000
set_option maxRecDepth 1000000
theorem Tryz.stairsInfo:(prog.info? 135).map (·.size)=some 3:=by kernel_rfl
theorem okNil{w:Vz}{W K:Nat}:Oks w W K []:=fun _ h=>by cases h
def Box2(b:Nat)(sv hv:Value)(v:Vz):Prop:=v.cell? ⟨b,1,none⟩=some sv/\v.cell? ⟨b,2,none⟩=some hv
theorem SW.box2{w u:Vz}{W K wide:Nat}{L S X:List MR}{hs:Vy}{lv sv hv b1 b2:Value}(h:SW w u W K wide L S X hs lv sv hv b1 b2):Box2 (w.heap.size+1) b1 b2 u:=⟨h.box.cell 1,h.box.cell 2⟩
theorem Qa8(u:Vz)(v:Value)(t:Vr):(u.alloc (.cells #[v] t)).cell? ⟨u.heap.size,0,none⟩=some v:=(SB.new u t #[v]).cell 0
section
variable {w u:Vz} {W K wide:Nat} {L S X:List MR} {hs:Vy} {lv sv hv b1 b2:Value}
theorem SW.ord1(h:SW w u W K wide L S X hs lv sv hv b1 b2){r:MR}(j:r∈ X){g:Vx}(i:r.a=g)(k:Nat)(n:S.length<=1000)(o:hs.length<=1000):
 ∃b e d f,(Builtin.append_ #[89,89] 89 #[sv,.slice (some ⟨u.heap.size,0,none⟩) 1 1]).run prog (u.alloc (.cells #[.slice g W r.cap] 93))=.ok b e/\
  (Builtin.append_ #[99,99] 99 #[hv,.slice (some ⟨e.heap.size,0,none⟩) 1 1]).run prog (e.alloc (.cells #[.int .i64 (k:Nat)] 3))=.ok d f/\SW w e W K wide L (S++ [r]) X hs lv b hv b1 b2/\SW w f W K wide L (S++ [r]) X (hs++ [k]) lv b d b1 b2:=by
 have l:=h.alloc (.cells #[.slice g W r.cap] 93);obtain⟨b,e,p,m,_,_⟩:=l.app1 (s:=r) (nb:=u.heap.size) (c:=1) (by rw[Qa8,MR.val,(h.okX r j).len,i]) (l.okX r j) n 89;obtain⟨d,f,q,t⟩:=(m.alloc (.cells #[.int .i64 (k:Nat)] 3)).app2 (k:=k) (nb:=e.heap.size) (c:=1) (Qa8 _ _ _) o 99;exact⟨b,e,d,f,p,q,m,t⟩
theorem SW.ord2(h:SW w u W K wide L S X hs lv sv hv b1 b2){r:MR}(m:r∈ X){e:Vx}(l:r.a=e)(k:Nat)(q:S.length<=1000)(t:hs.length<=1000):
 ∃b f d j,(Builtin.append_ #[89,89] 89 #[sv,.slice (some ⟨u.heap.size,0,none⟩) 1 1]).run prog ((u.alloc (.cells #[.slice e W r.cap] 93)).alloc (.cells #[.int .i64 (k:Nat)] 3))=.ok b f/\
  (Builtin.append_ #[99,99] 99 #[hv,.slice (some ⟨u.heap.size+1,0,none⟩) 1 1]).run prog f=.ok d j/\SW w f W K wide L (S++ [r]) X hs lv b hv b1 b2/\SW w j W K wide L (S++ [r]) X (hs++ [k]) lv b d b1 b2:=by
 have v:=h.alloc (.cells #[.slice e W r.cap] 93);have n:=v.alloc (.cells #[.int .i64 (k:Nat)] 3);have x:((u.alloc (.cells #[.slice e W r.cap] 93)).alloc (.cells #[.int .i64 (k:Nat)] 3)).cell? ⟨u.heap.size,0,none⟩=some (.slice e W r.cap):=
  (((Below.refl _ (u.alloc (.cells #[.slice e W r.cap] 93))).alloc lZ _).cell (p:=⟨u.heap.size,0,none⟩) (by rw[World.size_alloc];exact Nat.lt_succ_self _)).trans (Qa8 _ _ _)
 obtain⟨b,f,y,o,_,g⟩:=n.app1 (s:=r) (nb:=u.heap.size) (c:=1) (by rw[x,MR.val,(h.okX r m).len,l]) (n.okX r m) q 89;have i:=g _ _ _ (Qa8 (u.alloc (.cells #[.slice e W r.cap] 93)) (.int .i64 (k:Nat)) 3);rw[World.size_alloc] at i;obtain⟨d,j,z,A⟩:=o.app2 (k:=k) (nb:=u.heap.size+1) (c:=1) i t 99;exact⟨b,f,d,j,y,z,o,A⟩
theorem SW.ord3(h:SW w u W K wide L S X hs lv sv hv b1 b2){r:MR}(m:r∈ X){g:Vx}(j:r.a=g)(k:Nat)(t:S.length<=1000)(v:hs.length<=1000):
 ∃b e d i,(Builtin.append_ #[89,89] 89 #[sv,.slice (some ⟨u.heap.size+1,0,none⟩) 1 1]).run prog ((u.alloc (.cells #[.int .i64 (k:Nat)] 3)).alloc (.cells #[.slice g W r.cap] 93))=.ok b e/\
  (Builtin.append_ #[99,99] 99 #[hv,.slice (some ⟨u.heap.size,0,none⟩) 1 1]).run prog e=.ok d i/\SW w e W K wide L (S++ [r]) X hs lv b hv b1 b2/\SW w i W K wide L (S++ [r]) X (hs++ [k]) lv b d b1 b2:=by
 have x:=h.alloc (.cells #[.int .i64 (k:Nat)] 3);have n:=x.alloc (.cells #[.slice g W r.cap] 93);have o:=Qa8 (u.alloc (.cells #[.int .i64 (k:Nat)] 3)) (.slice g W r.cap) 93;rw[World.size_alloc] at o;obtain⟨b,e,y,q,_,f⟩:=n.app1 (s:=r) (nb:=u.heap.size+1) (c:=1) (by rw[o,MR.val,(h.okX r m).len,j]) (n.okX r m) t 89;have l:=f u.heap.size 0 (k:Nat) ((((Below.refl _ (u.alloc (.cells #[.int .i64 (k:Nat)] 3))).alloc lZ _).cell (p:=⟨u.heap.size,0,none⟩) (by rw[World.size_alloc];exact Nat.lt_succ_self _)).trans (Qa8 _ _ _));obtain⟨d,i,z,A⟩:=q.app2 (k:=k) (nb:=u.heap.size) (c:=1) l v 99;exact⟨b,e,d,i,y,z,q,A⟩
end
theorem Qk9(a:Vx)(cap W K wide:Nat)(rs:List MR)(w:Vz)(I:Nat->List Vec->List Vec->List Nat->Prop)(hI:Going K I)(h:ARow MR.cells w a cap rs)(b0:Oks w W K rs)(hl:rs.length<=1000)(hW:W<=1000)(dd:wide<=W)(de:0<K)(b:4*K+1<68719476000)(h0:I 0 (rs.map MR.q) [] []):
 Calls prog 76 #[.slice a rs.length cap,.int .i64 wide] w fun e w'=>(∃(L S:List MR) (hs:Vy) (sv hv:Value),e=.returned (.agg #[.int .i64 wide,sv,hv])/\I wide (L.map MR.q) (S.map MR.q) hs/\S.length<=wide/\hs.length<=wide/\Grow w' w.heap.size 93 1 IsSl sv S.length (S.map MR.val)/\Grow w' w.heap.size 3 1 IsI hv hs.length (headsV hs)/\Oks w' W K S)/\Below w.heap.size w w':=by
 obtain⟨HH,HO,HI,H0⟩:=Ic h b0 hI h0;clear h b0 hI h0;go_enter func76,ntmps76;obtain⟨V,hV⟩:=nm ((w.alloc (.cells #[.int .i64 0,.slice none 0 0,.slice none 0 0] 135)).alloc (.cells #[.int .i64 wide,.slice none 0 0,.slice none 0 0] 135));have af:=Ub hV;have bd:=Ud hV;have be:=Ue hV;have HV:=Hi hV;clear hV;go_wp2_with fail;rw[HV.o];go_fit (Qup a cap rs V (HH.o.below af.o) hl);rintro e w1 ⟨⟨lv,rfl,hg⟩,aj⟩;have df:O (SW w w1 W K wide rs [] [] [] lv (.slice none 0 0) (.slice none 0 0) (.slice none 0 0) (.slice none 0 0)):=Hi
  ⟨be.o.below aj be.o.lt,bd.o.below aj bd.o.lt,hg.mono af.o.size,Grow.nil _ _ _ _ _,Grow.nil _ _ _ _ _,(fun _ _=>by simp[Value.ownBlock]),HO.o.fr ((Fr.of_below af.o).trans (Fr.of_below aj)),(fun _ h=>by cases h),(fun _ h=>by cases h),af.o.trans (aj.mono af.o.size),⟨_,_,_,rfl⟩,⟨_,_,_,rfl⟩⟩
 clear hg aj bd be af HV;go_wp2_with fail;go_loopw [6,17] (fun lw i wr=>∃(k:Nat) (L S:List MR) (hs:Vy) (sv hv:Value),k<=wide/\i=.int .i64 k/\SW w wr W K wide L S [] hs lw sv hv sv hv/\I k (L.map MR.q) (S.map MR.q) hs/\L.length<=1000/\S.length<=k/\hs.length<=k) (fun _ i _=>wide - (intOf i).toNat)
 case atStart=>exact⟨0,rs,[],[],_,_,Nat.zero_le _,rfl,df.o,H0.o,hl,Nat.zero_le _,Nat.zero_le _⟩
 case round=>
  obtain⟨k,L,S,hs,sv,hv,hk,rfl,hS,hi,b3,dy,dz⟩:=hrel;obtain⟨N,HJ⟩:=Ia hS hi;clear hi;by_cases ea:k<wide
  .
   obtain⟨a',cap',rfl,a4,a6⟩:=hS.left.mat hS.okL;have q1:((k:Int)<(wide:Int)):=by omega
   obtain⟨HP,HM⟩:=Ia a6 a4;clear hS a4 a6;go_wp2_with fail;go_fit (Quh a' cap' W k L wr HM.o b3 hW (by omega));rintro e w2 ⟨⟨v,rfl,hp⟩,b4⟩;have ag:=Hi (N.o.below b4);clear b4 HM;rcases hp with ⟨rfl,a7⟩|⟨j,r,hj,rfl,b5⟩
   .
    have HA:=Hi a7;clear a7;go_wp2;go_roundw
    case rel=>exact⟨k+1,L,S,hs,sv,hv,by omega,by go_num,ag.o,HI.o.skip HJ.o (fun r hr=>by obtain⟨x,hx,rfl⟩:=List.mem_map.1 hr;exact HA.o x hx),b3,by omega,by omega⟩
    case measure=>simp[intOf];omega
   .
    have bf:j<L.length:=(gZ hj).1;obtain⟨g,rfl⟩:=HP.o (by omega);obtain⟨b6,dg⟩:=Ia hj b5;have l:=ag.o.okL r (mO hj);have bg:=l.len;obtain⟨f,hf⟩:∃f,r.ts[k]?=some f:=⟨r.ts[k]'(by omega),gE (by omega)⟩;obtain⟨rb,ro,bh,_,_,_,_⟩:=l.row.at hf;have d:w2.cell? ⟨g,j,none⟩=some (.slice r.a r.ts.length r.cap):=ag.o.left.cell (by rw[List.getElem?_map,hj];rfl);rw[bh,bg] at d;obtain⟨ah,HF⟩:=Ia bh hf;have q2:((j:Int)<(L.length:Int)):=by omega
    have HD:=Hi (Qus w2 w.heap.size j (j+1) L.length (.slice (some ⟨g,0,none⟩) L.length cap') (L.map MR.val) ag.o.left rfl bf);simp only[Int.natCast_add,Int.natCast_one] at HD;have dh:=Hi l;clear hj b5 l HP bh hf;go_wp2_with fail;go_fit HD.o;rintro e w3 ⟨g',v3,hg,b7,rfl,b8,ho⟩;obtain rfl:g=g':=by simpa [Value.ownBlock] using hg
    obtain⟨a8,rfl,bi⟩:=(ag.o.withX (Y:=[r]) (fun x hx=>by
     have e:x=r:=by simpa using hx
     subst e
     exact dh.o)).erase hg b7 ho b8 bf
    have aa:O (I (k+1) (((L.eraseIdx j).map MR.q).map (lessBy k r.q)) ((S++ [r]).map MR.q) (hs++ [k])):=Hi (by
     have:=HI.o.step HJ.o (j:=j) (s:=r.q) (by rw[List.getElem?_map,b6.o];rfl) dg.o;rw[Qgx] at this
     simpa using this)
    have a9:O (∀x,x∈ L.eraseIdx j->∀i,Fits (lessBy k r.q x.q i) K):=Hi (fun x hx i=>HI.o.fit aa.o _ (List.mem_map.2 ⟨x.q,List.mem_map.2 ⟨x,hx,rfl⟩,rfl⟩) i);have b9:(L.eraseIdx j).length<=1000:=by rw[List.length_eraseIdx,if_pos bf];omega
    obtain⟨L1,ca⟩:=nm (L.eraseIdx j);rw[ca] at bi aa a9 b9 ⊢;have cb:=Hi bi;clear bi hg b7 b8 ho HD b6 d ag N ca q2;go_wp2_with fail;go_loopw [36] (fun i wq=>∃(m:Nat) (T:List MR),m<=L1.length/\i=.int .i64 m/\T.length=L1.length/\SW w wq W K wide T S [r] hs (.slice (some ⟨g,0,none⟩) L1.length a8) sv hv sv hv/\(∀p x y,L1[p]?=some x->T[p]?=some y->y.q=if p<m then lessBy k r.q x.q else x.q)) (fun i _=>L1.length - (intOf i).toNat)
    case atStart=>exact⟨0,L1,Nat.zero_le _,rfl,rfl,cb.o,fun p x y hx hy=>by rw[hx] at hy;cases hy;simp⟩
    case round=>
     obtain⟨m,T,hm,rfl,ar,cc,hq⟩:=hrel;obtain⟨N,ab⟩:=Ia cc hq;clear cc hq cb;by_cases di:m<L1.length
     .
      obtain⟨y,hy⟩:∃y,T[m]?=some y:=⟨T[m]'(by omega),gE (by omega)⟩;obtain⟨x,hx⟩:∃x,L1[m]?=some x:=⟨L1[m],gE di⟩;have cd:y.q=x.q:=by have:=ab.o m x y hx hy;simpa using this
      have F:=N.o.okL y (mO hy);have l:=N.o.okX r (by simp);have G:=F.len;obtain⟨e,he⟩:∃e,y.ts[k]?=some e:=⟨y.ts[k]'(by omega),gE (by omega)⟩;have hf:=HF.o;obtain⟨yb,yo,bj,au,d0,d1,d2⟩:=F.row.at he;obtain⟨eb,ec,ba,av,z0,z1,z2⟩:=l.row.at hf;have ak:=ah.o;rw[ba] at ak;cases ak;have ed:g≠yb:=N.o.left.frac_ne rfl d0 (F.row.get he).1;have ee:g≠rb:=N.o.left.frac_ne rfl z0 (l.row.get hf).1;obtain⟨cf,cg,ch⟩:=F.row.get he;obtain⟨hv2,bb,bc⟩:=l.row.get hf;have ef:=F.sz e (mO he);have eg:=l.sz f (mO hf);have c0:wr.cell? ⟨g,m,none⟩=some (.slice y.a W y.cap):=by
       rw[<-G];exact N.o.left.cell (by rw[List.getElem?_map,hy];rfl)
      rw[bj] at c0;obtain⟨ci,HX,HY,al,bk,bl,cj,am,dj⟩:=Ih bj hx hy cd F l cf cg hv2;obtain⟨U,ck,dk⟩:=Ib bb (MR.q_at he) (MR.q_at hf);have q3:((m:Int)<(L1.length:Int)):=by omega
      have q4:((k:Int)<(W:Int)):=by omega
      obtain⟨dl,dm,dn,dp,dq,dr⟩:=Ie d0 d1 d2 z0 z1 z2;clear hy hx cd F l he hf bj ba cf cg hv2 bb z0 z1 z2;go_wp2_with fail;go_fit (Qcf cj.o);rintro e' w4 ⟨rfl,bm⟩;obtain⟨B,cl⟩:=Ia bm (N.o.below bm);clear bm d0 d1 d2 c0;by_cases h0:e.q=0
      .
       rw[decide_eq_true h0];have HZ:O (x.q k=0):=Hi (by rw[<-al.o,ck.o];exact h0);clear h0;go_wp2;go_roundw
       case rel=>
        refine⟨m+1,T,by omega,by go_num,ar,cl.o,fun p x' y' ad M=>?_⟩;rcases Nat.lt_trichotomy p m with hp|rfl|hp
        . rw[ab.o p x' y' ad M,if_pos hp,if_pos (by omega)]
        .
         obtain rfl:=Option.some.inj (HX.o.symm.trans ad);obtain rfl:=Option.some.inj (HY.o.symm.trans M);rw[if_pos (by omega),Qut HZ.o];exact al.o
        . rw[ab.o p x' y' ad M,if_neg (by omega),if_neg (by omega)]
       case measure=>simp[intOf];omega
      .
       rw[decide_eq_false h0];clear h0;have ae:yb<w4.heap.size:=Nat.lt_of_lt_of_le au B.o.size;have an:rb<w4.heap.size:=Nat.lt_of_lt_of_le av B.o.size;obtain⟨K0,K1,K2,R0,R1,R2,cm,cn,bn⟩:=Ih (ce B.o au dl.o) (ce B.o au dm.o) (ce B.o au dn.o) (ce B.o av dp.o) (ce B.o av dq.o) (ce B.o av dr.o) (bk.o.row.below B.o) (bl.o.row.below B.o) (cj.o.below B.o);have bo:=Hi (dj.o.below B.o);have H:O (Below w4.heap.size w4 w4):=Hi bR;go_wp2_with fail;have u0:=ce H.o ae K0.o
       obtain⟨u1,u2⟩:=Ja H.o ae K1.o K2.o;obtain⟨v0,v1,v2⟩:=Jb H.o an R0.o R1.o R2.o;go_region_held3 (fun v=>v.cell? ⟨yb,yo+k*3,none⟩=some e.x/\v.cell? ⟨yb,yo+k*3+1,none⟩=some e.y/\v.cell? ⟨yb,yo+k*3+2,none⟩=some e.z/\v.cell? ⟨rb,ro+k*3,none⟩=some f.x/\v.cell? ⟨rb,ro+k*3+1,none⟩=some f.y/\v.cell? ⟨rb,ro+k*3+2,none⟩=some f.z) ((first|(simp [*];done)|go_keep)) (first
        |(
         go_at_call 129;apply cM
         first
          |exact Qcy bn.o bo.o am.o U.o (by omega)
          |exact Qcy (bn.o.below H.o.drew) (bo.o.below H.o.drew) am.o U.o (by omega)
          |exact Qcy (bn.o.below H.o.drew.drew) (bo.o.below H.o.drew.drew) am.o U.o (by omega)
         rintro e5 w5 ⟨⟨v5,rfl,aw⟩,ax⟩;obtain⟨n5,a5,l5,c5,m5,o5,p5,rfl,aw⟩:=aw
         first
          |have C:O (Below w4.heap.size w4 w5):=Hi ax
          |have C:O (Below w4.heap.size w4 w5):=Hi (bR.drew.trans ax)
          |have C:O (Below w4.heap.size w4 w5):=Hi (bR.drew.drew.trans ax)
         have cp:O (FracV w5 (.agg #[.bool n5,.slice a5 l5 c5,.slice m5 o5 p5]) (e.q / f.q)):=Hi ⟨n5,a5,l5,c5,m5,o5,p5,rfl,aw⟩;clear aw ax;obtain⟨u0,u1,u2⟩:=Jb C.o ae K0.o K1.o K2.o;obtain⟨v0,v1,v2⟩:=Jb C.o an R0.o R1.o R2.o
         skip)
        |(
         go_at_call 128;apply cM;(first
           |(
            have HL:=Qgv y.a r.a y.cap r.cap (4*K+1) (e.k+f.k) y.ts r.ts (.bool n5) (.slice a5 l5 c5) (.slice m5 o5 p5) (e.q / f.q) w5 (cm.o.below C.o) (cn.o.below C.o) (by omega) (by omega) cp.o (am.o.div U.o ch bc) (by omega) (fun t ht s hs=>by have:=bk.o.sz t ht;have:=bl.o.sz s hs;omega) (by omega);rw[G,ci.o,ah.o] at HL
            exact HL)
           |(
            have HL:=Qgv y.a r.a y.cap r.cap (4*K+1) (e.k+f.k) y.ts r.ts (.bool n5) (.slice a5 l5 c5) (.slice m5 o5 p5) (e.q / f.q) w5.drew (cm.o.below C.o.drew) (cn.o.below C.o.drew) (by omega) (by omega) (cp.o.below bR.drew) (am.o.div U.o ch bc) (by omega) (fun t ht s hs=>by have:=bk.o.sz t ht;have:=bl.o.sz s hs;omega) (by omega);rw[G,ci.o,ah.o] at HL
            exact HL))
         rintro e6 w6 ⟨⟨g6,us,rfl,ds,cq,cr⟩,bp⟩
         first
          |have ay:O (Below w4.heap.size w4 w6):=Hi (C.o.trans (bp.mono C.o.size))
          |have ay:O (Below w4.heap.size w4 w6):=Hi (C.o.trans (((bR.drew).trans bp).mono C.o.size))
         obtain⟨bq,dt,du⟩:=Ib (cl.o.below ay.o) cq cr;clear cq cr bp ds;obtain⟨u0,u1,u2⟩:=Jb ay.o ae K0.o K1.o K2.o;obtain⟨v0,v1,v2⟩:=Jb ay.o an R0.o R1.o R2.o;have fz:=bq.o.left.free m;have fc:w6.cell? ⟨g,m,none⟩=some y.val:=bq.o.left.cell (by rw[List.getElem?_map,HY.o];rfl)
         skip))
       all_goals
        go_wp2_with fail;obtain⟨r',cs,br,ct⟩:=MOk.made (v:=lessBy k r.q x.q) (K:=K) dt.o G (by rw[G];exact du.o) de (fun i hi=>by
         show y.q i - qAt r.ts i*(e.q / f.q)=_
         rw[qAt_q,al.o,<-ck.o,<-dk.o,al.o]
         rfl) (fun i hi=>by
         have h1:x.q i=0:=by rw[<-al.o];exact MR.q_beyond (by omega)
         have h2:r.q i=0:=MR.q_beyond (by omega);unfold lessBy;rw[h1,h2]
         grind) (fun i _=>a9.o x (mO HX.o) i)
        refine⟨⟨m+1,T.set m r',by omega,by go_num,by rw[List.length_set];exact ar,?_,fun p x' y' ad M=>?_⟩,?_⟩
        . rw[<-cs]
          exact bq.o.setL ar.symm (by omega) br
        .
         rcases Nat.lt_trichotomy p m with hp|rfl|hp
         . rw[List.getElem?_set_ne (by omega)] at M
           rw[ab.o p x' y' ad M,if_pos hp,if_pos (by omega)]
         .
          obtain rfl:=Option.some.inj (HX.o.symm.trans ad);rw[List.getElem?_set_self (by omega)] at M;obtain rfl:=Option.some.inj M;rw[if_pos (by omega)];exact ct
         . rw[List.getElem?_set_ne (by omega)] at M
           rw[ab.o p x' y' ad M,if_neg (by omega),if_neg (by omega)]
        . simp[intOf]
          omega
     .
      have bs:m=L1.length:=by omega
      subst bs;have dv:O (T.map MR.q=(L1.map MR.q).map (lessBy k r.q)):=Hi (by
       apply List.ext_getElem?;intro p;simp only[List.getElem?_map];rcases Nat.lt_or_ge p L1.length with hp|hp
       .
        obtain⟨x,hx⟩:∃x,L1[p]?=some x:=⟨L1[p],gE hp⟩;obtain⟨y,hy⟩:∃y,T[p]?=some y:=⟨T[p]'(by omega),gE (by omega)⟩;rw[hx,hy];simp only[Option.map_some];rw[ab.o p x y hx hy,if_pos hp]
       . rw[List.getElem?_eq_none (by omega),List.getElem?_eq_none hp]
         rfl)
      have bt:O (I (k+1) (T.map MR.q) ((S++ [r]).map MR.q) (hs++ [k])):=Hi (by rw[dv.o];exact aa.o);have bu:O (k+1<=wide):=Hi (by omega);have bv:O (T.length<=1000):=Hi (by omega);have bw:O ((S++ [r]).length<=k+1):=Hi (by rw[List.length_append];simp;omega);have bx:O ((hs++ [k]).length<=k+1):=Hi (by rw[List.length_append];simp;omega);have P:O (wide - (k+1)<wide - k):=Hi (by omega);have Q:S.length<=1000:=by omega
      have R:hs.length<=1000:=by omega
      obtain⟨E,hE⟩:=nm wr.drew;have Z:O (SW w E W K wide T S [r] hs (.slice (some ⟨g,0,none⟩) L1.length a8) sv hv sv hv):=Hi (by rw[<-hE];exact N.o.drew);have dw:=Hi hE;obtain⟨eh,dx,ei,ej,cu,cv,cw,az⟩:=Z.o.ord1 (List.mem_singleton.2 rfl) ah.o k Q R;obtain⟨ek,em,en,eo,cx,cy,cz,a0⟩:=Z.o.ord2 (List.mem_singleton.2 rfl) ah.o k Q R;obtain⟨ep,eq,er,es,c1,c2,c3,a1⟩:=Z.o.ord3 (List.mem_singleton.2 rfl) ah.o k Q R;obtain⟨bz,ai,c4,ao,c6,ap,c7,c8,c9⟩:=Ih cw az cz a0 c3 a1 cu cv cx;obtain⟨da,db,dc⟩:=Ib cy c1 c2;obtain⟨et,eu,rfl,_,_,_⟩:=az.rows.slice;obtain⟨ev,ew,rfl,_,_,_⟩:=az.heads.slice;obtain⟨ex,ey,rfl,_,_,_⟩:=a0.rows.slice;obtain⟨ez,e0,rfl,_,_,_⟩:=a0.heads.slice
      obtain⟨e7,e8,rfl,_,_,_⟩:=a1.rows.slice;obtain⟨e9,fa,rfl,_,_,_⟩:=a1.heads.slice;have A:Box2 (w.heap.size+1) sv hv E:=Z.o.box2;clear hE cu cv cw az cx cy cz a0 c1 c2 c3 a1 ab ar hm;go_wp2_with fail;refine AnyDs.begin (S:=Box2 (w.heap.size+1) sv hv) (D:=[11,13]) (by kernel_rfl) ?_;rw[dw.o];refine AnyDs.take (i:=0) (v:=?_) rfl (by kernel_rfl) (by kernel_rfl) (by kernel_rfl) (by kernel_rfl) (by kernel_rfl) (fun _ _ _ h=>h) (Or.inl ⟨by rfl,?_⟩) A ?_
      rotate_left
      .
       intro wq c;obtain⟨a2,a3⟩:=c
       first|(go_simp;done)|(go_simp;with_reducible rfl)
      (try simp only[Act.put,List.setIfInBounds_toArray,List.set_cons_zero,List.set_cons_succ]);refine AnyDs.take (i:=1) (v:=?_) rfl (by kernel_rfl) (by kernel_rfl) (by kernel_rfl) (by kernel_rfl) (by kernel_rfl) (fun _ _ _ h=>h) (Or.inl ⟨by rfl,?_⟩) A ?_
      rotate_left
      .
       intro wq c;obtain⟨a2,a3⟩:=c
       first|(go_simp;done)|(go_simp;with_reducible rfl)
      (try simp only[Act.put,List.setIfInBounds_toArray,List.set_cons_zero,List.set_cons_succ]);refine AnyDs.take (i:=2) (v:=?_) rfl (by kernel_rfl) (by kernel_rfl) (by kernel_rfl) (by kernel_rfl) (by kernel_rfl) (fun _ _ _ h=>h) (Or.inl ⟨by rfl,?_⟩) A ?_
      rotate_left
      .
       intro wq c;obtain⟨a2,a3⟩:=c
       first|(go_simp;done)|(go_simp;with_reducible rfl)
      (try simp only[Act.put,List.setIfInBounds_toArray,List.set_cons_zero,List.set_cons_succ]);refine AnyDs.take (i:=5) (v:=?_) rfl (by kernel_rfl) (by kernel_rfl) (by kernel_rfl) (by kernel_rfl) (by kernel_rfl) (fun _ _ _ h=>h) (Or.inl ⟨by rfl,?_⟩) A ?_
      rotate_left
      .
       intro wq c;obtain⟨a2,a3⟩:=c
       first|(go_simp;done)|(go_simp;with_reducible rfl)
      (try simp only[Act.put,List.setIfInBounds_toArray,List.set_cons_zero,List.set_cons_succ]);refine AnyDs.take (i:=6) (v:=?_) rfl (by kernel_rfl) (by kernel_rfl) (by kernel_rfl) (by kernel_rfl) (by kernel_rfl) (fun _ _ _ h=>h) (Or.inl ⟨by rfl,?_⟩) A ?_
      rotate_left
      .
       intro wq c;obtain⟨a2,a3⟩:=c
       first|(go_simp;done)|(go_simp;with_reducible rfl)
      (try simp only[Act.put,List.setIfInBounds_toArray,List.set_cons_zero,List.set_cons_succ]);refine AnyDs.takeP (i:=7) (v:=?_) rfl (by kernel_rfl) (by kernel_rfl) (by kernel_rfl) (by kernel_rfl) (fun _ _ _ h=>h) (Or.inl ⟨by rfl,?_⟩) (fun _=>A) ?_
      rotate_left
      .
       intro wq c;clear c
       first|(go_simp;done)|(go_simp;with_reducible rfl)
      (try simp only[Act.put,List.setIfInBounds_toArray,List.set_cons_zero,List.set_cons_succ]);refine AnyDs.ready (rs:=[3,8]) (by kernel_rfl) (by simp) ?_;refine AllDs.cons (by rfl) ?_ (AllDs.cons (by rfl) ?_ AllDs.nil)
      .
       intro n b;go_simp;(try dsimp only);refine b.out _ _ (fun _ _=>(Z.o.alloc _).box2) ?_;clear b n;(try simp only[Act.put,List.setIfInBounds_toArray,List.set_cons_zero,List.set_cons_succ]);refine AnyDs.ready (rs:=[4,8]) (by kernel_rfl) (by simp) ?_;refine AllDs.cons (by rfl) ?_ (AllDs.cons (by rfl) ?_ AllDs.nil)
       .
        intro n b;refine Qa6 (t:=89) rfl (.tmp 64) (.tmp 66) rfl (vs:=sv) (vx:=.slice (some ⟨E.heap.size,0,none⟩) 1 1) (by simp[Act.eval]) (by simp[Act.eval]) c7.o ?_;(try dsimp only);refine b.out _ _ (fun _ _=>bz.o.box2) ?_;clear b n;(try simp only[Act.put,List.setIfInBounds_toArray,List.set_cons_zero,List.set_cons_succ]);refine AnyDs.takeP (i:=10) (v:=?_) rfl (by kernel_rfl) (by kernel_rfl) (by kernel_rfl) (by kernel_rfl) (fun _ _ _ h=>h) (Or.inl ⟨by rfl,?_⟩) (fun _=>bz.o.box2) ?_
        rotate_left
        .
         intro wq c;clear c
         first|(go_simp;done)|(go_simp;with_reducible rfl)
        (try simp only[Act.put,List.setIfInBounds_toArray,List.set_cons_zero,List.set_cons_succ]);refine AnyDs.ready (rs:=[8]) (by kernel_rfl) (by simp) ?_;refine AllDs.cons (by rfl) ?_ AllDs.nil;intro n b;go_simp;(try dsimp only);refine b.out _ _ (fun _ _=>(bz.o.alloc _).box2) ?_;clear b n;(try simp only[Act.put,List.setIfInBounds_toArray,List.set_cons_zero,List.set_cons_succ]);refine AnyDs.ready (rs:=[9]) (by kernel_rfl) (by simp) ?_;refine AllDs.cons (by rfl) ?_ AllDs.nil;intro n b;refine Qa6 (t:=99) rfl (.tmp 69) (.tmp 71) rfl (vs:=hv) (vx:=.slice (some ⟨dx.heap.size,0,none⟩) 1 1) (by simp[Act.eval]) (by simp[Act.eval]) c8.o ?_;(try dsimp only);refine b.out _ _ (fun _ _=>ai.o.box2) ?_;clear b n;(try simp only[Act.put,List.setIfInBounds_toArray,List.set_cons_zero,List.set_cons_succ]);obtain⟨-,x1,-⟩:=zc ai.o.box
        obtain⟨-,-,x2,-⟩:=zc ai.o.box;have z1:=ai.o.box.free 1;have z2:=ai.o.box.free 2;refine AnyDs.ready (rs:=[11]) (by kernel_rfl) (by simp) ?_;refine AllDs.cons (by rfl) ?_ AllDs.nil;intro n b;go_simp;(try dsimp only);refine b.out _ _ (fun h=>absurd (by decide) h) ?_;clear b n;(try simp only[Act.put,List.setIfInBounds_toArray,List.set_cons_zero,List.set_cons_succ]);refine AnyDs.takeP (i:=12) (v:=?_) rfl (by kernel_rfl) (by kernel_rfl) (by kernel_rfl) (by kernel_rfl) (fun _ _ _ h=>h) (Or.inl ⟨by rfl,?_⟩) (fun h=>absurd h (Qci (d:=11) (by kernel_rfl) (by kernel_rfl))) ?_
        rotate_left
        .
         intro wq c;clear c
         first|(go_simp;done)|(go_simp;with_reducible rfl)
        (try simp only[Act.put,List.setIfInBounds_toArray,List.set_cons_zero,List.set_cons_succ]);refine AnyDs.ready (rs:=[13]) (by kernel_rfl) (by simp) ?_;refine AllDs.cons (by rfl) ?_ AllDs.nil;intro n b;go_simp;(try dsimp only);refine b.out _ _ (fun h=>absurd (by decide) h) ?_;clear b n;(try simp only[Act.put,List.setIfInBounds_toArray,List.set_cons_zero,List.set_cons_succ]);refine AnyDs.done (by kernel_rfl) ?_ _;clear x1 x2 z1 z2;have J:=ai.o.put.withX okNil;rw[show (S++ [r]).length=S.length+1 by simp,show (hs++ [k]).length=hs.length+1 by simp] at J;have aq:=Hi J;clear J;go_wp2_with fail;refine⟨⟨k+1,T,S++ [r],hs++ [k],_,_,bu.o,by go_num,aq.o,bt.o,bv.o,bw.o,bx.o⟩,?_⟩
        first|exact P.o|(simp only[intOf];exact P.o)|(simp [intOf];exact P.o)
       .
        intro n b;go_simp;(try dsimp only);refine b.out _ _ (fun _ _=>((Z.o.alloc _).alloc _).box2) ?_;clear b n;(try simp only[Act.put,List.setIfInBounds_toArray,List.set_cons_zero,List.set_cons_succ]);refine AnyDs.ready (rs:=[4]) (by kernel_rfl) (by simp) ?_;refine AllDs.cons (by rfl) ?_ AllDs.nil;intro n b;refine Qa6 (t:=89) rfl (.tmp 64) (.tmp 66) rfl (vs:=sv) (vx:=.slice (some ⟨E.heap.size,0,none⟩) 1 1) (by simp[Act.eval]) (by simp[Act.eval]) c9.o ?_;(try dsimp only);refine b.out _ _ (fun _ _=>c4.o.box2) ?_;clear b n;(try simp only[Act.put,List.setIfInBounds_toArray,List.set_cons_zero,List.set_cons_succ]);refine AnyDs.takeP (i:=10) (v:=?_) rfl (by kernel_rfl) (by kernel_rfl) (by kernel_rfl) (by kernel_rfl) (fun _ _ _ h=>h) (Or.inl ⟨by rfl,?_⟩) (fun _=>c4.o.box2) ?_
        rotate_left
        .
         intro wq c;clear c
         first|(go_simp;done)|(go_simp;with_reducible rfl)
        (try simp only[Act.put,List.setIfInBounds_toArray,List.set_cons_zero,List.set_cons_succ]);refine AnyDs.ready (rs:=[9]) (by kernel_rfl) (by simp) ?_;refine AllDs.cons (by rfl) ?_ AllDs.nil;intro n b;refine Qa6 (t:=99) rfl (.tmp 69) (.tmp 71) rfl (vs:=hv) (vx:=.slice (some ⟨E.heap.size+1,0,none⟩) 1 1) (by simp[Act.eval]) (by simp[Act.eval]) da.o ?_;(try dsimp only);refine b.out _ _ (fun _ _=>ao.o.box2) ?_;clear b n;(try simp only[Act.put,List.setIfInBounds_toArray,List.set_cons_zero,List.set_cons_succ]);obtain⟨-,x1,x2,-⟩:=zc ao.o.box;have z1:=ao.o.box.free 1;have z2:=ao.o.box.free 2;refine AnyDs.ready (rs:=[11]) (by kernel_rfl) (by simp) ?_;refine AllDs.cons (by rfl) ?_ AllDs.nil;intro n b;go_simp;(try dsimp only);refine b.out _ _ (fun h=>absurd (by decide) h) ?_
        clear b n;(try simp only[Act.put,List.setIfInBounds_toArray,List.set_cons_zero,List.set_cons_succ]);refine AnyDs.takeP (i:=12) (v:=?_) rfl (by kernel_rfl) (by kernel_rfl) (by kernel_rfl) (by kernel_rfl) (fun _ _ _ h=>h) (Or.inl ⟨by rfl,?_⟩) (fun h=>absurd h (Qci (d:=11) (by kernel_rfl) (by kernel_rfl))) ?_
        rotate_left
        .
         intro wq c;clear c
         first|(go_simp;done)|(go_simp;with_reducible rfl)
        (try simp only[Act.put,List.setIfInBounds_toArray,List.set_cons_zero,List.set_cons_succ]);refine AnyDs.ready (rs:=[13]) (by kernel_rfl) (by simp) ?_;refine AllDs.cons (by rfl) ?_ AllDs.nil;intro n b;go_simp;(try dsimp only);refine b.out _ _ (fun h=>absurd (by decide) h) ?_;clear b n;(try simp only[Act.put,List.setIfInBounds_toArray,List.set_cons_zero,List.set_cons_succ]);refine AnyDs.done (by kernel_rfl) ?_ _;clear x1 x2 z1 z2;have J:=ao.o.put.withX okNil;rw[show (S++ [r]).length=S.length+1 by simp,show (hs++ [k]).length=hs.length+1 by simp] at J;have aq:=Hi J;clear J;go_wp2_with fail;refine⟨⟨k+1,T,S++ [r],hs++ [k],_,_,bu.o,by go_num,aq.o,bt.o,bv.o,bw.o,bx.o⟩,?_⟩
        first|exact P.o|(simp only[intOf];exact P.o)|(simp [intOf];exact P.o)
      .
       intro n b;go_simp;(try dsimp only);refine b.out _ _ (fun _ _=>(Z.o.alloc _).box2) ?_;clear b n;(try simp only[Act.put,List.setIfInBounds_toArray,List.set_cons_zero,List.set_cons_succ]);refine AnyDs.ready (rs:=[3]) (by kernel_rfl) (by simp) ?_;refine AllDs.cons (by rfl) ?_ AllDs.nil;intro n b;go_simp;(try dsimp only);refine b.out _ _ (fun _ _=>((Z.o.alloc _).alloc _).box2) ?_;clear b n;(try simp only[Act.put,List.setIfInBounds_toArray,List.set_cons_zero,List.set_cons_succ]);refine AnyDs.ready (rs:=[4]) (by kernel_rfl) (by simp) ?_;refine AllDs.cons (by rfl) ?_ AllDs.nil;intro n b;refine Qa6 (t:=89) rfl (.tmp 64) (.tmp 66) rfl (vs:=sv) (vx:=.slice (some ⟨E.heap.size+1,0,none⟩) 1 1) (by simp[Act.eval]) (by simp[Act.eval]) db.o ?_;(try dsimp only);refine b.out _ _ (fun _ _=>c6.o.box2) ?_;clear b n
       (try simp only[Act.put,List.setIfInBounds_toArray,List.set_cons_zero,List.set_cons_succ]);refine AnyDs.takeP (i:=10) (v:=?_) rfl (by kernel_rfl) (by kernel_rfl) (by kernel_rfl) (by kernel_rfl) (fun _ _ _ h=>h) (Or.inl ⟨by rfl,?_⟩) (fun _=>c6.o.box2) ?_
       rotate_left
       .
        intro wq c;clear c
        first|(go_simp;done)|(go_simp;with_reducible rfl)
       (try simp only[Act.put,List.setIfInBounds_toArray,List.set_cons_zero,List.set_cons_succ]);refine AnyDs.ready (rs:=[9]) (by kernel_rfl) (by simp) ?_;refine AllDs.cons (by rfl) ?_ AllDs.nil;intro n b;refine Qa6 (t:=99) rfl (.tmp 69) (.tmp 71) rfl (vs:=hv) (vx:=.slice (some ⟨E.heap.size,0,none⟩) 1 1) (by simp[Act.eval]) (by simp[Act.eval]) dc.o ?_;(try dsimp only);refine b.out _ _ (fun _ _=>ap.o.box2) ?_;clear b n;(try simp only[Act.put,List.setIfInBounds_toArray,List.set_cons_zero,List.set_cons_succ]);obtain⟨-,x1,x2,-⟩:=zc ap.o.box;have z1:=ap.o.box.free 1;have z2:=ap.o.box.free 2;refine AnyDs.ready (rs:=[11]) (by kernel_rfl) (by simp) ?_;refine AllDs.cons (by rfl) ?_ AllDs.nil;intro n b;go_simp;(try dsimp only);refine b.out _ _ (fun h=>absurd (by decide) h) ?_
       clear b n;(try simp only[Act.put,List.setIfInBounds_toArray,List.set_cons_zero,List.set_cons_succ]);refine AnyDs.takeP (i:=12) (v:=?_) rfl (by kernel_rfl) (by kernel_rfl) (by kernel_rfl) (by kernel_rfl) (fun _ _ _ h=>h) (Or.inl ⟨by rfl,?_⟩) (fun h=>absurd h (Qci (d:=11) (by kernel_rfl) (by kernel_rfl))) ?_
       rotate_left
       .
        intro wq c;clear c
        first|(go_simp;done)|(go_simp;with_reducible rfl)
       (try simp only[Act.put,List.setIfInBounds_toArray,List.set_cons_zero,List.set_cons_succ]);refine AnyDs.ready (rs:=[13]) (by kernel_rfl) (by simp) ?_;refine AllDs.cons (by rfl) ?_ AllDs.nil;intro n b;go_simp;(try dsimp only);refine b.out _ _ (fun h=>absurd (by decide) h) ?_;clear b n;(try simp only[Act.put,List.setIfInBounds_toArray,List.set_cons_zero,List.set_cons_succ]);refine AnyDs.done (by kernel_rfl) ?_ _;clear x1 x2 z1 z2;have J:=ap.o.put.withX okNil;rw[show (S++ [r]).length=S.length+1 by simp,show (hs++ [k]).length=hs.length+1 by simp] at J;have aq:=Hi J;clear J;go_wp2_with fail;refine⟨⟨k+1,T,S++ [r],hs++ [k],_,_,bu.o,by go_num,aq.o,bt.o,bv.o,bw.o,bx.o⟩,?_⟩
       first|exact P.o|(simp only[intOf];exact P.o)|(simp [intOf];exact P.o)
  .
   have bs:k=wide:=by omega
   subst bs;obtain⟨t1,t2,rfl,_,_,_⟩:=N.o.rows.slice;obtain⟨s1,s2,rfl,_,_,_⟩:=N.o.heads.slice;obtain⟨x0,x1,x2,-⟩:=zc N.o.box;obtain⟨y0,y1,y2,-⟩:=zc N.o.res;have f0:=N.o.res.free 0;have f1:=N.o.res.free 1;have f2:=N.o.res.free 2;clear hS;go_wp2;obtain⟨e1,e2,e3,e4⟩:=N.o.done (.int .i64 k) (.slice t1 S.length t2) (.slice s1 hs.length s2)
   refine bodyPost_ret (v:=.agg #[.int .i64 k,.slice t1 S.length t2,.slice s1 hs.length s2]) (results_cell_row rfl _ _ w.heap.size 135 #[.int .i64 k,.slice t1 S.length t2,.slice s1 hs.length s2] (0,0) _ rfl (((N.o.res.set 0 _).set 1 _).set 2 _) underlying135 rfl Tryz.stairsInfo) rfl ?_;exact⟨⟨L,S,hs,_,_,rfl,HJ.o,by omega,by omega,e1,e2,e3⟩,e4⟩
theorem Qvc(w:Vz)(x z:Value)(a:Vx)(n c:Nat):(Instr.field 135 (.agg #[x,.slice a n c,z]) 1).run prog w=.ok (.slice a n c) w:=by kernel_rfl
theorem Qvd(a:Vx)(cap W K:Nat)(rs:List MR)(w:Vz)(I:Nat->List Vec->List Vec->List Nat->Prop)(m:Going K I)(h:ARow MR.cells w a cap rs)(b:Oks w W K rs)(hl:rs.length<=1000)(r:W<=1000)(i:0<K)(s:4*K+1<68719476000)(n:I 0 (rs.map MR.q) [] []):
 Calls prog 37 #[.slice a rs.length cap,.int .i64 W] w fun e w'=>(∃(L S:List Vec) (g:Vy),e=.returned (.int .i64 (S.length:Nat))/\S.length<=W/\I W L S g)/\Below w.heap.size w w':=by
 have j:=Hi (Qk9 a cap W K W rs w I m h b hl r lZ i s n);clear m h b n;go_enter func37,ntmps37;go_wp2_with fail;go_fit j.o;rintro e w1 ⟨⟨L,S,g,y,z,rfl,p,k,t,c,d,l⟩,f⟩;obtain⟨b1,c1,rfl,_,_,_⟩:=c.slice;obtain⟨b2,c2,rfl,_,_,_⟩:=d.slice;obtain⟨u,v⟩:=Ia p f;have x:=Qvc w1 (.int .i64 (W:Nat)) (.slice b2 g.length c2) b1 S.length c1;clear p c d l f;go_wp2;go_ret;exact⟨⟨L.map MR.q,S.map MR.q,g,by rw[List.length_map];rfl,by rw[List.length_map];exact k,u.o⟩,v.o⟩
def Solved(W K:Nat)(M:List Vec)(b:List Rat)(w:Vz)(e:Ending)(w':Vz):Prop:=
 ((e=.returned (.tuple #[.slice none 0 0,.int .i64 8])/\∀x,¬Sol W M b x)∨
  (e=.returned (.tuple #[.slice none 0 0,.int .i64 9])/\∃x y,Sol W M b x/\Sol W M b y/\∃c,c<W/\x c≠y c)∨
  (∃(g:Nat) (us:List FE),e=.returned (.tuple #[.slice (some ⟨g,0,none⟩) W W,.int .i64 0])/\QBlk w' g us/\us.length=W/\(∀t,t∈ us->t.k<=K)/\∀y,Sol W M b y↔∀(i:Nat) (t:FE),us[i]?=some t->y i=t.q))/\Below w.heap.size w w'
theorem Qve(a a':Vx)(cap cap' W K:Nat)(rs:List MR)(F:List FE)(w:Vz)(I:Nat->List Vec->List Vec->List Nat->Prop)(hI:Going K I)(h:QMat w a cap W rs)(hk:∀r,r∈ rs->∀t,t∈ r.ts->t.k<=K)(h':QRow w a' cap' F)(H:∀t,t∈ F->t.k<=K)(aa:F.length=rs.length)(hl:rs.length<=1000)(hW:W+1<=1000)(ab:0<K)(hK:4*K+1<68719476000)
 (h0:I 0 (List.zipWith (wider W) (rs.map MR.q) (F.map (·.q))) [] [])
 (T:∀L S d,I (W+1) L S d->Ech 0 (W+1) S d/\(∀x,Null (W+1) (List.zipWith (wider W) (rs.map MR.q) (F.map (·.q))) x↔Null (W+1) S x)/\clnFits K S d):
 Calls prog 59 #[.slice a rs.length cap,.int .i64 W,.slice a' rs.length cap'] w (Solved W K (rs.map MR.q) (F.map (·.q)) w):=by
 obtain⟨HJ,HI,H0,HF,al⟩:=Id (Qu6 a a' cap cap' W K rs F w h hk h' H aa hl (by omega)) hI h0 T aa;clear hI h hk h' H h0 T aa;go_enter func59,ntmps59;go_wp2_with fail;go_fit HJ.o;rintro e w1 ⟨⟨g,am,rfl,an,ao,U,ap⟩,aq⟩;have hM:am.map MR.q=List.zipWith (wider W) (rs.map MR.q) (F.map (·.q)):=by
  apply List.ext_getElem?;intro i;rw[List.getElem?_zipWith,List.getElem?_map,List.getElem?_map,List.getElem?_map];rcases Nat.lt_or_ge i rs.length with z|z
  .
   obtain⟨r,hr⟩:∃r,rs[i]?=some r:=⟨rs[i],gE z⟩;obtain⟨s,d⟩:∃s,F[i]?=some s:=⟨F[i]'(by have:=al.o;omega),gE (by have:=al.o;omega)⟩;obtain⟨r',A,h2⟩:=ap i r s hr d;rw[hr,d,A];simp[h2]
  . rw[List.getElem?_eq_none (by omega),List.getElem?_eq_none z]
    rfl
 have J:=Qk9 (some ⟨g,0,none⟩) rs.length (W+1) K (W+1) am w1 I HI.o (ao.arow rfl (by omega)) U (by omega) hW lZ ab hK (by rw[hM];exact H0.o);rw[an] at J;simp only[Int.natCast_add,Int.natCast_one] at J;obtain⟨ar,ad⟩:=Ia J aq;clear J aq ao U ap an hM HJ;go_wp2_with fail;go_fit ar.o;rintro e w2 ⟨⟨L,S,d,sv,hv,rfl,z,b0,b3,ae,af,au⟩,av⟩;obtain⟨b1,c1,rfl,_,_,_⟩:=ae.slice;obtain⟨b2,c2,rfl,_,_,_⟩:=af.slice;obtain⟨X,B,aw⟩:=HF.o _ _ _ z;obtain⟨HE,HN,bf,ax,ay,bg,az⟩:=If X B aw ae af au (ad.o.trans (av.mono ad.o.size));have bz:=ad.o.size;clear z ae af au av X B aw ar;obtain⟨V,hV⟩:=nm (w2.alloc (.cells #[.int .i64 ((W:Int)+1),.slice b1 S.length c1,.slice b2 d.length c2] 135))
 have n:=Ua hV;have M:=Uc hV;have HV:=Hi hV;clear hV;go_wp2_with fail;rw[HV.o];go_fit (Quv b2 c2 W d V (ay.o.below n.o).crow (by omega));rintro e w3 ⟨rfl,rfl⟩;have a0:d.length=S.length:=by have:=HE.o.len;simp at this;omega
 have C:=Hi a0;clear a0;obtain⟨x0,x1,x2,-⟩:=zc M.o;have l:=Hi (az.o.trans (n.o.mono az.o.size));by_cases hw:W∈ d
 .
  rw[decide_eq_true hw];have HW:=Hi hw;clear hw;go_wp2;go_ret2;exact⟨.inl ⟨rfl,fun x=>Qpp HE.o HN.o HW.o x⟩,l.o⟩
 .
  rw[decide_eq_false hw];have HW:=Hi hw;clear hw;by_cases a1:d.length<W
  .
   have q1:((d.length:Int)<(W:Int)):=by omega
   go_wp2;go_ret2;exact⟨.inr (.inl ⟨rfl,Qpq HE.o HN.o HW.o a1⟩),l.o⟩
  .
   have q1:¬((d.length:Int)<(W:Int)):=by omega
   obtain⟨a2,Y,Z⟩:=Qpr HE.o HN.o HW.o a1;obtain⟨bh,bi,bj,N⟩:=Ic (Qvb w1.heap.size (W+1) K S d (.slice b1 S.length c1) (.slice b2 d.length c2) ((W:Int)+1) w3 (ax.o.below n.o) (ay.o.below n.o) (bg.o.fr (Fr.of_below n.o)) C.o.symm (fun c hc=>(HE.o.head c hc).2) bf.o (by omega) (by omega) ab hK) Y Z a2;clear Y Z a2;go_wp2_with fail;go_fit bh.o;rintro e G ⟨rfl,S',a3,a4,b⟩;have a5:O (Below w.heap.size w G):=Hi ⟨b.o.1.trans l.o.os,b.o.2.1.trans l.o.tape,b.o.2.2.1.trans l.o.output,Nat.le_trans l.o.size b.o.2.2.2,fun k hk=>(b.base k (Nat.lt_of_lt_of_le hk l.o.size) (fun e=>by have:=(b.rows.lt e).1;omega)).trans (l.o.block k hk)⟩;have m:O (SB G w2.heap.size 135 #[.int .i64 ((W:Int)+1),.slice b1 S.length c1,.slice b2 d.length c2]):=Hi (by
    have A:=b.base w2.heap.size M.o.lt (fun e=>by
     obtain⟨D,d1,_⟩:=(ax.o.below n.o).sb e
     exact M.o.unlike d1 row_stairs.symm rfl)
    have h2:=M.o;unfold SB at h2 ⊢;rw[A]
    exact h2)
   obtain⟨bk,ag,bl⟩:=Ib b a3 a4;have a6:=fun w=>Qdc W (by omega) w
   obtain⟨MC,ah⟩:=nm (((List.replicate W FE.zero).flatMap FE.cells).toArray);rw[ah] at a6;have bm:=Hi ah.symm;obtain⟨V4,P⟩:=nm (G.alloc (.cells MC 141));obtain⟨g5,E⟩:=nm G.heap.size;have bn:O (Below g5 G V4):=Hi (by rw[<-P,<-E];exact(Below.refl _ _).alloc lZ _);have bo:O (QBlk V4 g5 (List.replicate W FE.zero)):=Hi (by rw[<-P,<-E];exact QBlk.new G W MC bm.o);have y2:∀o,(G.alloc o).cell? ⟨w2.heap.size,2,none⟩=some (.slice b2 d.length c2):=fun o=>(m.o.alloc o).cell 2
   have bp:=Hi P;clear b a3 a4 ah P x0 x1 x2;go_wp2_with fail;rw[bp.o]
   try rw[E]
   clear y2 a6;go_loopw [34] (fun i wr=>∃(k:Nat) (us:List FE),k<=d.length/\i=.int .i64 k/\us.length=W/\QBlk wr g5 us/\(∀(i:Nat) (t:FE),i<k->us[i]?=some t->∃r,S'[i]?=some r/\t.q=r.q W)/\(∀t,t∈ us->t.k<=K)/\Below g5 G wr) (fun i _=>d.length - (intOf i).toNat)
   case atStart=>exact⟨0,_,Nat.zero_le _,rfl,by simp,bo.o,fun i t z=>by omega,fun t u=>by obtain⟨_,rfl⟩:=List.mem_replicate.1 u;exact ab,bn.o⟩
   case round=>
    obtain⟨k,us,hk,rfl,a7,a8,a9,ba,hb⟩:=hrel;obtain⟨Q,HQ,ai,bb,HB⟩:=Id a7 a8 a9 ba hb;clear a7 a8 a9 ba hb;by_cases bq:k<d.length
    .
     have R:Below G.heap.size G wr:=by rw[E];exact HB.o
     have b4:k<W:=by have:=N.o;omega
     obtain⟨r,hr⟩:∃r,S'[k]?=some r:=⟨S'[k]'(by have:=ag.o;have:=C.o;omega),gE (by have:=ag.o;have:=C.o;omega)⟩;obtain⟨j,aj⟩:∃j,d[k]?=some j:=⟨d[k],gE bq⟩;obtain rfl:=bi.o k j aj;have b:=bk.o.below R;have f:=b.ok r (mO hr);obtain⟨e,he⟩:∃e,r.ts[W]?=some e:=⟨r.ts[W]'(by have:=f.len;omega),gE (by have:=f.len;omega)⟩;obtain⟨rb,ro,bc,b5,d0,d1,d2⟩:=f.row.at he;have ak:=f.row.get he;have bd:=f.sz e (mO he);obtain⟨b6,b7,br,b8,b9⟩:=b.heads.crow.cell j (.int .i64 (j:Nat)) (by simp[headsV,aj]);obtain⟨gb,go,bs,ca,bt⟩:=b.rows.crow.cell j r.val (by rw[List.getElem?_map,hr];rfl);rw[MR.val,bc,f.len] at bt;obtain⟨-,x1,-⟩:=zc (m.o.below R m.o.lt)
     obtain⟨-,-,x2,-⟩:=zc (m.o.below R m.o.lt);subst br;subst bs;obtain⟨o1,o2,o3⟩:=ak.1.one;have cb:=Qa2 prog o1;have cc:=Qa2 prog o2;have cd:=Qa2 prog o3;obtain⟨y0,be⟩:∃y0,us[j]?=some y0:=⟨us[j]'(by have:=Q.o;omega),gE (by have:=Q.o;omega)⟩;have f0:=HQ.o.blk.free (j*3);have f1:=HQ.o.blk.free (j*3+1);have f2:=HQ.o.blk.free (j*3+2);obtain⟨gy,oy,bu,_,t0,t1,t2⟩:=HQ.o.row.at be;cases bu;simp only[Nat.zero_add] at t0 t1 t2;have q2:((j:Int)<(d.length:Int)):=by omega
     have q3:((j:Int)<(W:Int)):=by omega
     have q4:((j:Int)<(S.length:Int)):=by have:=C.o;omega
     have q5:((W:Int)<((W+1:Nat):Int)):=by omega
     obtain⟨bv,bw,HR,bx⟩:=Ic ak (MR.q_at he) hr bd;clear R hr aj b f he bc ak be o1 o2 o3 bd;go_wp2_with fail;refine⟨⟨j+1,us.set j e,by omega,by go_num,by rw[List.length_set];exact Q.o,HQ.o.set (by have:=Q.o;omega) bv.o,fun i t z u=>?_,fun t u=>?_,((HB.o.setCell (p:=⟨g5,j*3,none⟩) lZ _).setCell (p:=⟨g5,j*3+1,none⟩) lZ _).setCell (p:=⟨g5,j*3+2,none⟩) lZ _⟩,?_⟩
     .
      rcases Nat.lt_or_ge i j with A|A
      . rw[List.getElem?_set_ne (by omega)] at u
        exact ai.o i t A u
      .
       obtain rfl:i=j:=by omega
       rw[List.getElem?_set_self (by have:=Q.o;omega)] at u;obtain rfl:=Option.some.inj u;exact⟨r,HR.o,bw.o.symm⟩
     .
      rcases List.mem_or_eq_of_mem_set u with u|rfl
      . exact bb.o t u
      . exact bx.o
     . simp[intOf]
       omega
    .
     have H:k=d.length:=by omega
     subst H;go_wp2;go_ret2;refine⟨.inr (.inr ⟨g5,us,rfl,HQ.o,Q.o,bb.o,fun y=>?_⟩),a5.o.trans (HB.o.mono (by rw[<-E];exact a5.o.size))⟩;rw[bj.o y,<-bl.o];constructor
     .
      intro hy i t u;obtain⟨r,A,h2⟩:=ai.o i t (by have:=(gZ u).1;have:=Q.o;have:=N.o;omega) u;rw[h2];exact hy i r.q (by rw[List.getElem?_map,A];rfl)
     .
      intro hy i v hv;rw[List.getElem?_map] at hv;obtain⟨r,A,rfl⟩:=Option.map_eq_some_iff.1 hv;have z:i<us.length:=by have:=(gZ A).1;have:=Q.o;have:=N.o;have:=ag.o;have:=C.o;omega
      obtain⟨r2,k1,k2⟩:=ai.o i us[i] (by have:=Q.o;have:=N.o;omega) (gE z);obtain rfl:=Option.some.inj (A.symm.trans k1);rw[hy i us[i] (gE z),k2]
end Go.Proofs.YtppkmifkpjkgpaaGreatDoor
