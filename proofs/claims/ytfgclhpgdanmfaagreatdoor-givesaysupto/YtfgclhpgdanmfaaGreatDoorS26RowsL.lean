import Derived.Test.YtfgclhpgdanmfaaGreatDoorS25OrdersP
namespace Go.Proofs.YtfgclhpgdanmfaaGreatDoor
set_option linter.defProp false
open Go.RowKit
open Go.Proofs.Tryz
set_option linter.unusedSimpArgs false
set_option linter.unusedVariables false
set_option maxHeartbeats 8000000
set_option maxRecDepth 1000000
def Tryz.xf:(prog.info? 183).map (·.size)=some 3:=kK
def Br{w:Vz}{W K:Nat}:wB w W K []:=fun _ h=>by cases h
def Hp(b:Nat)(sv hv:Ac)(v:Vz):Prop:=v.cell? ⟨b,1,none⟩=some sv/\v.cell? ⟨b,2,none⟩=some hv
def SW.ri{w u:Vz}{W K wide:Nat}{L S X:AA}{hs:Vy}{lv sv hv b1 b2:Ac}(h:SW w u W K wide L S X hs lv sv hv b1 b2):Hp (w.heap.size+1) b1 b2 u:=⟨h.box.cell 1,h.box.cell 2⟩
def yA(u:Vz)(v:Ac)(t:Vr):(u.alloc (.cells #[v] t)).cell? ⟨u.heap.size,0,none⟩=some v:=(cK u t #[v]).cell 0
section
variable {w u:Vz} {W K wide:Nat} {L S X:AA} {hs:Vy} {lv sv hv b1 b2:Ac}
def SW.Ju(h:SW w u W K wide L S X hs lv sv hv b1 b2){r:MR}(j:r∈ X){g:Vx}(i:r.a=g)(k:Nat)(n:S.length<=1000)(o:hs.length<=1000):
 ∃b e d f,(Builtin.append_ #[141,141] 141 #[sv,.slice (some ⟨u.heap.size,0,none⟩) 1 1]).run prog (u.alloc (.cells #[.slice g W r.cap] 90))=.ok b e/\
  (Builtin.append_ #[133,133] 133 #[hv,.slice (some ⟨e.heap.size,0,none⟩) 1 1]).run prog (e.alloc (.cells #[.int .i64 (k:Nat)] 3))=.ok d f/\SW w e W K wide L (S++ [r]) X hs lv b hv b1 b2/\SW w f W K wide L (S++ [r]) X (hs++ [k]) lv b d b1 b2:=by
 have l:=h.alloc (.cells #[.slice g W r.cap] 90);obtain⟨b,e,p,m,_,_⟩:=l.EA (s:=r) (nb:=u.heap.size) (c:=1) (by rw[yA,MR.val,(h.okX r j).len,i]) (l.okX r j) n 141;obtain⟨d,f,q,t⟩:=(m.alloc (.cells #[.int .i64 (k:Nat)] 3)).D9 (k:=k) (nb:=e.heap.size) (c:=1) (yA _ _ _) o 133;exact⟨b,e,d,f,p,q,m,t⟩
def SW.Jt(h:SW w u W K wide L S X hs lv sv hv b1 b2){r:MR}(m:r∈ X){e:Vx}(l:r.a=e)(k:Nat)(q:S.length<=1000)(t:hs.length<=1000):
 ∃b f d j,(Builtin.append_ #[141,141] 141 #[sv,.slice (some ⟨u.heap.size,0,none⟩) 1 1]).run prog ((u.alloc (.cells #[.slice e W r.cap] 90)).alloc (.cells #[.int .i64 (k:Nat)] 3))=.ok b f/\
  (Builtin.append_ #[133,133] 133 #[hv,.slice (some ⟨u.heap.size+1,0,none⟩) 1 1]).run prog f=.ok d j/\SW w f W K wide L (S++ [r]) X hs lv b hv b1 b2/\SW w j W K wide L (S++ [r]) X (hs++ [k]) lv b d b1 b2:=by
 have v:=h.alloc (.cells #[.slice e W r.cap] 90);have n:=v.alloc (.cells #[.int .i64 (k:Nat)] 3);have x:((u.alloc (.cells #[.slice e W r.cap] 90)).alloc (.cells #[.int .i64 (k:Nat)] 3)).cell? ⟨u.heap.size,0,none⟩=some (.slice e W r.cap):=
  (((ac _ (u.alloc (.cells #[.slice e W r.cap] 90))).alloc lZ _).cell (p:=⟨u.heap.size,0,none⟩) (by rw[bH];exact nJ _)).trans (yA _ _ _)
 obtain⟨b,f,y,o,_,g⟩:=n.EA (s:=r) (nb:=u.heap.size) (c:=1) (by rw[x,MR.val,(h.okX r m).len,l]) (n.okX r m) q 141;have i:=g _ _ _ (yA (u.alloc (.cells #[.slice e W r.cap] 90)) (.int .i64 (k:Nat)) 3);rw[bH]at i;obtain⟨d,j,z,A⟩:=o.D9 (k:=k) (nb:=u.heap.size+1) (c:=1) i t 133;exact⟨b,f,d,j,y,z,o,A⟩
def SW.Js(h:SW w u W K wide L S X hs lv sv hv b1 b2){r:MR}(m:r∈ X){g:Vx}(j:r.a=g)(k:Nat)(t:S.length<=1000)(v:hs.length<=1000):
 ∃b e d i,(Builtin.append_ #[141,141] 141 #[sv,.slice (some ⟨u.heap.size+1,0,none⟩) 1 1]).run prog ((u.alloc (.cells #[.int .i64 (k:Nat)] 3)).alloc (.cells #[.slice g W r.cap] 90))=.ok b e/\
  (Builtin.append_ #[133,133] 133 #[hv,.slice (some ⟨u.heap.size,0,none⟩) 1 1]).run prog e=.ok d i/\SW w e W K wide L (S++ [r]) X hs lv b hv b1 b2/\SW w i W K wide L (S++ [r]) X (hs++ [k]) lv b d b1 b2:=by
 have x:=h.alloc (.cells #[.int .i64 (k:Nat)] 3);have n:=x.alloc (.cells #[.slice g W r.cap] 90);have o:=yA (u.alloc (.cells #[.int .i64 (k:Nat)] 3)) (.slice g W r.cap) 90;rw[bH]at o;obtain⟨b,e,y,q,_,f⟩:=n.EA (s:=r) (nb:=u.heap.size+1) (c:=1) (by rw[o,MR.val,(h.okX r m).len,j]) (n.okX r m) t 141;have l:=f u.heap.size 0 (k:Nat) ((((ac _ (u.alloc (.cells #[.int .i64 (k:Nat)] 3))).alloc lZ _).cell (p:=⟨u.heap.size,0,none⟩) (by rw[bH];exact nJ _)).trans (yA _ _ _));obtain⟨d,i,z,A⟩:=q.D9 (k:=k) (nb:=u.heap.size) (c:=1) l v 133;exact⟨b,e,d,i,y,z,q,A⟩
end
def RX(a:Vx)(cap W K wide:Nat)(rs:AA)(w:Vz)(I:Aq)(hI:pF K I)(h:eO MR.cells w a cap rs)(b0:wB w W K rs)(hl:rs.length<=1000)(hW:W<=1000)(dd:wide<=W)(de:0<K)(b:4*K+1<68719476000)(h0:I 0 (rs.map MR.q) [] []):
 Calls prog 142 #[.slice a rs.length cap,.int .i64 wide] w fun e w'=>(∃(L S:AA)(hs:Vy)(sv hv:Ac),e=.returned (.agg #[.int .i64 wide,sv,hv])/\I wide (L.map MR.q) (S.map MR.q) hs/\S.length<=wide/\hs.length<=wide/\Grow w' w.heap.size 90 1 jy sv S.length (S.map MR.val)/\Grow w' w.heap.size 3 1 zC hv hs.length (lU hs)/\wB w' W K S)/\Below w.heap.size w w':=by
 obtain⟨HH,HO,HI,H0⟩:=Ic h b0 hI h0;clear h b0 hI h0;go_enter func142,ntmps142;obtain⟨V,hV⟩:=nm ((w.alloc (.cells #[.int .i64 0,.slice none 0 0,.slice none 0 0] 183)).alloc (.cells #[.int .i64 wide,.slice none 0 0,.slice none 0 0] 183));have ae:=Ub hV;have bd:=Ud hV;have be:=Ue hV;have HV:=Hi hV;clear hV;go_wp2_with fail;rw[HV.o];go_fit (R6 a cap rs V (HH.o.below ae.o) hl);rintro e w1 ⟨⟨lv,rfl,hg⟩,ah⟩;have df:O (SW w w1 W K wide rs [] [] [] lv (.slice none 0 0) (.slice none 0 0) (.slice none 0 0) (.slice none 0 0)):=Hi
  ⟨be.o.below ah be.o.lt,bd.o.below ah bd.o.lt,hg.mono ae.o.size,pA _ _ _ _ _,pA _ _ _ _ _,(fun _ _=>by simp[Value.ownBlock]),HO.o.fr ((vC ae.o).trans (vC ah)),(fun _ h=>by cases h),(fun _ h=>by cases h),ae.o.trans (ah.mono ae.o.size),⟨_,_,_,rfl⟩,⟨_,_,_,rfl⟩⟩
 clear hg ah bd be ae HV;go_wp2_with fail;go_loopw [6,17] (fun lw i wr=>∃(k:Nat)(L S:AA)(hs:Vy) (sv hv:Ac),k<=wide/\i=.int .i64 k/\SW w wr W K wide L S [] hs lw sv hv sv hv/\I k (L.map MR.q) (S.map MR.q) hs/\L.length<=1000/\S.length<=k/\hs.length<=k) (fun _ i _=>wide - (intOf i).toNat)
 case atStart=>exact⟨0,rs,[],[],_,_,cJ _,rfl,df.o,H0.o,hl,cJ _,cJ _⟩
 case round=>
  obtain⟨k,L,S,hs,sv,hv,hk,rfl,hS,hi,b3,dy,dz⟩:=hrel;obtain⟨N,HJ⟩:=Ia hS hi;clear hi;by_cases ea:k<wide
  .
   obtain⟨a',cap',rfl,a4,a6⟩:=hS.left.mat hS.okL;have q1:((k:Int)<(wide:Int)):=oO;obtain⟨HP,HM⟩:=Ia a6 a4;clear hS a4 a6;go_wp2_with fail;go_fit (Sd a' cap' W k L wr HM.o b3 hW oO);rintro e w2 ⟨⟨v,rfl,hp⟩,b4⟩;have af:=Hi (N.o.below b4);clear b4 HM;rcases hp with ⟨rfl,a7⟩|⟨j,r,hj,rfl,b5⟩
   . have HA:=Hi a7;clear a7;go_wp2;go_roundw
     case rel=>exact⟨k+1,L,S,hs,sv,hv,oO,by go_num,af.o,HI.o.skip HJ.o (fun r hr=>by obtain⟨x,hx,rfl⟩:=bZ.1 hr;exact HA.o x hx),b3,oO,oO⟩
     case measure=>exact mI
   .
    have bf:=(gZ hj).1;obtain⟨g,rfl⟩:=HP.o oO;obtain⟨b6,dg⟩:=Ia hj b5;have l:=af.o.okL r (mO hj);have bg:=l.len;obtain⟨f,hf⟩:∃f,r.ts[k]?=some f:=⟨r.ts[k]' oO,gE oO⟩;obtain⟨rb,ro,bh,_,_,_,_⟩:=l.row.at hf;have d:w2.cell? ⟨g,j,none⟩=some (.slice r.a r.ts.length r.cap):=af.o.left.cell (by rw[aP,hj];rfl);rw[bh,bg]at d;obtain⟨ag,HF⟩:=Ia bh hf;have q2:((j:Int)<(L.length:Int)):=oO;have HD:=Hi (RZ w2 w.heap.size j (j+1) L.length (.slice (some ⟨g,0,none⟩) L.length cap') (L.map MR.val) af.o.left rfl bf);simp only[mV,Int.natCast_one]at HD;have dh:=Hi l;clear hj b5 l HP bh hf;go_wp2_with fail;go_fit HD.o;rintro e w3 ⟨g',v3,hg,b7,rfl,b8,ho⟩;obtain rfl:g=g':=by simpa [Value.ownBlock] using hg
    obtain⟨a8,rfl,bi⟩:=(af.o.xI (Y:=[r]) (fun x hx=>by
     have e:x=r:=sU hx;subst e
     exact dh.o)).Gc hg b7 ho b8 bf
    have aa:O (I (k+1) (((L.eraseIdx j).map MR.q).map (kR k r.q)) ((S++ [r]).map MR.q) (hs++ [k])):=Hi (by
     have:=HI.o.step HJ.o (j:=j) (s:=r.q) (by rw[aP,b6.o];rfl) dg.o;rw[JS]at this
     simpa using this)
    have a9:=Hi (fun x hx i=>HI.o.fit aa.o _ (bZ.2 ⟨x.q,bZ.2 ⟨x,hx,rfl⟩,rfl⟩) i);have b9:(L.eraseIdx j).length<=1000:=by rw[qd,aN bf];omega
    obtain⟨L1,ca⟩:=nm (L.eraseIdx j);rw[ca]at bi aa a9 b9 ⊢;have cb:=Hi bi;clear bi hg b7 b8 ho HD b6 d af N ca q2;go_wp2_with fail;go_loopw [36] (fun i wq=>∃(m:Nat)(T:AA),m<=L1.length/\i=.int .i64 m/\T.length=L1.length/\SW w wq W K wide T S [r] hs (.slice (some ⟨g,0,none⟩) L1.length a8) sv hv sv hv/\(∀p x y,L1[p]?=some x->T[p]?=some y->y.q=if p<m then kR k r.q x.q else x.q)) (fun i _=>L1.length - (intOf i).toNat)
    case atStart=>exact⟨0,L1,cJ _,rfl,rfl,cb.o,fun p x y hx hy=>by rw[hx]at hy;cases hy;simp⟩
    case round=>
     obtain⟨m,T,hm,rfl,ar,cc,hq⟩:=hrel;obtain⟨N,ab⟩:=Ia cc hq;clear cc hq cb;by_cases di:m<L1.length
     .
      obtain⟨y,hy⟩:∃y,T[m]?=some y:=⟨T[m]' oO,gE oO⟩;obtain⟨x,hx⟩:∃x,L1[m]?=some x:=⟨L1[m],gE di⟩;have cd:y.q=x.q:=by have:=ab.o m x y hx hy;simpa using this
      have F:=N.o.okL y (mO hy);have l:=N.o.okX r sS;have G:=F.len;obtain⟨e,he⟩:∃e,y.ts[k]?=some e:=⟨y.ts[k]' oO,gE oO⟩;have hf:=HF.o;obtain⟨yb,yo,bj,au,d0,d1,d2⟩:=F.row.at he;obtain⟨eb,ec,ba,av,z0,z1,z2⟩:=l.row.at hf;have ai:=ag.o;rw[ba]at ai;cases ai;have ed:g≠yb:=N.o.left.xQ rfl d0 (F.row.get he).1;have ee:g≠rb:=N.o.left.xQ rfl z0 (l.row.get hf).1;obtain⟨cf,cg,ch⟩:=F.row.get he;obtain⟨hv2,bb,bc⟩:=l.row.get hf;have ef:=F.sz e (mO he);have eg:=l.sz f (mO hf);have c0:wr.cell? ⟨g,m,none⟩=some (.slice y.a W y.cap):=by rw[<-G];exact N.o.left.cell (by rw[aP,hy];rfl)
      rw[bj]at c0;obtain⟨ci,HX,HY,aj,bk,bl,cj,ak,dj⟩:=Ih bj hx hy cd F l cf cg hv2;obtain⟨U,ck,dk⟩:=Ib bb (nQ he) (nQ hf);have q3:((m:Int)<(L1.length:Int)):=oO;have q4:((k:Int)<(W:Int)):=oO;obtain⟨dl,dm,dn,dp,dq,dr⟩:=Ie d0 d1 d2 z0 z1 z2;clear hy hx cd F l he hf bj ba cf cg hv2 bb z0 z1 z2;go_wp2_with fail;go_fit (EM cj.o);rintro e' w4 ⟨rfl,bm⟩;obtain⟨B,cl⟩:=Ia bm (N.o.below bm);clear bm d0 d1 d2 c0;by_cases h0:e.q=0
      . rw[dC h0];have HZ:O (x.q k=0):=Hi (by rw[<-aj.o,ck.o];exact h0);clear h0;go_wp2;go_roundw
        case rel=>
         refine⟨m+1,T,oO,by go_num,ar,cl.o,fun p x' y' ad J=>?_⟩;rcases gS p m with hp|rfl|hp
         . rw[ab.o p x' y' ad J,aN hp,aN oO]
         . obtain rfl:=aD (HX.o.symm.trans ad);obtain rfl:=aD (HY.o.symm.trans J);rw[aN oO,RY HZ.o];exact aj.o
         . rw[ab.o p x' y' ad J,aH oO,aH oO]
        case measure=>exact mI
      .
       rw[bS h0];clear h0;have al:=aF au B.o.size;have am:=aF av B.o.size;obtain⟨K0,K1,K2,R0,R1,R2,cm,cn,bn⟩:=Ih (ce B.o au dl.o) (ce B.o au dm.o) (ce B.o au dn.o) (ce B.o av dp.o) (ce B.o av dq.o) (ce B.o av dr.o) (bk.o.row.below B.o) (bl.o.row.below B.o) (cj.o.below B.o);have bo:=Hi (dj.o.below B.o);have M:O (Bl w4 w4):=Hi bR;go_wp2_with fail;obtain⟨u0,u1,u2⟩:=Jb M.o al K0.o K1.o K2.o;obtain⟨v0,v1,v2⟩:=Jb M.o am R0.o R1.o R2.o;go_region_held3 (fun v=>v.cell? ⟨yb,yo+k*3,none⟩=some e.x/\v.cell? ⟨yb,yo+k*3+1,none⟩=some e.y/\v.cell? ⟨yb,yo+k*3+2,none⟩=some e.z/\v.cell? ⟨rb,ro+k*3,none⟩=some f.x/\v.cell? ⟨rb,ro+k*3+1,none⟩=some f.y/\v.cell? ⟨rb,ro+k*3+2,none⟩=some f.z) ((first|(simp [*];done)|go_keep)) (first
        |(
         go_at_call 56;apply cM
         first
          |exact FH bn.o bo.o ak.o U.o oO
          |exact FH (bn.o.below M.o.drew) (bo.o.below M.o.drew) ak.o U.o oO
          |exact FH (bn.o.below M.o.drew.drew) (bo.o.below M.o.drew.drew) ak.o U.o oO
         rintro e5 w5 ⟨⟨v5,rfl,aw⟩,ax⟩;obtain⟨n5,a5,l5,c5,m5,o5,p5,rfl,aw⟩:=aw
         first
          |have C:O (Bl w4 w5):=Hi ax
          |have C:O (Bl w4 w5):=Hi (bR.drew.trans ax)
          |have C:O (Bl w4 w5):=Hi (bR.drew.drew.trans ax)
         have cp:O (eF w5 (.agg #[.bool n5,.slice a5 l5 c5,.slice m5 o5 p5]) (e.q / f.q)):=Hi ⟨n5,a5,l5,c5,m5,o5,p5,rfl,aw⟩;clear aw ax;obtain⟨u0,u1,u2⟩:=Jb C.o al K0.o K1.o K2.o;obtain⟨v0,v1,v2⟩:=Jb C.o am R0.o R1.o R2.o
         skip)
        |(
         go_at_call 148;apply cM;(first
           |(
            have HL:=Hu y.a r.a y.cap r.cap (4*K+1) (e.k+f.k) y.ts r.ts (.bool n5) (.slice a5 l5 c5) (.slice m5 o5 p5) (e.q / f.q) w5 (cm.o.below C.o) (cn.o.below C.o) oO oO cp.o (ak.o.div U.o ch bc) oO (fun t ht s hs=>by have:=bk.o.sz t ht;have:=bl.o.sz s hs;omega) oO;rw[G,ci.o,ag.o]at HL
            exact HL)
           |(
            have HL:=Hu y.a r.a y.cap r.cap (4*K+1) (e.k+f.k) y.ts r.ts (.bool n5) (.slice a5 l5 c5) (.slice m5 o5 p5) (e.q / f.q) w5.drew (cm.o.below C.o.drew) (cn.o.below C.o.drew) oO oO (cp.o.below bR.drew) (ak.o.div U.o ch bc) oO (fun t ht s hs=>by have:=bk.o.sz t ht;have:=bl.o.sz s hs;omega) oO;rw[G,ci.o,ag.o]at HL
            exact HL))
         rintro e6 w6 ⟨⟨g6,us,rfl,ds,cq,cr⟩,bp⟩
         first
          |have ay:=Hi (C.o.trans (bp.mono C.o.size))
          |have ay:O (Bl w4 w6):=Hi (C.o.trans (((bR.drew).trans bp).mono C.o.size))
         obtain⟨bq,dt,du⟩:=Ib (cl.o.below ay.o) cq cr;clear cq cr bp ds;obtain⟨u0,u1,u2⟩:=Jb ay.o al K0.o K1.o K2.o;obtain⟨v0,v1,v2⟩:=Jb ay.o am R0.o R1.o R2.o;have fz:=bq.o.left.free m;have fc:=bq.o.left.cell (by rw[aP,HY.o];rfl)
         skip))
       all_goals
        go_wp2_with fail;obtain⟨r',cs,br,ct⟩:=vw.yF (v:=kR k r.q x.q) (K:=K) dt.o G (by rw[G];exact du.o) de (fun i hi=>by
         show y.q i - qAt r.ts i*(e.q / f.q)=_
         rw[Di,aj.o,<-ck.o,<-dk.o,aj.o]
         rfl) (fun i hi=>by
         have h1:x.q i=0:=by rw[<-aj.o];exact ob oO
         have h2:r.q i=0:=ob oO;unfold kR;rw[h1,h2]
         grind) (fun i _=>a9.o x (mO HX.o) i)
        refine⟨⟨m+1,T.set m r',oO,by go_num,by rw[aQ];exact ar,?_,fun p x' y' ad J=>?_⟩,?_⟩
        . rw[<-cs]
          exact bq.o.Jn ar.symm oO br
        . rcases gS p m with hp|rfl|hp
          . rw[bN oO]at J
            rw[ab.o p x' y' ad J,aN hp,aN oO]
          . obtain rfl:=aD (HX.o.symm.trans ad);rw[bP oO]at J;obtain rfl:=aD J;rw[aN oO];exact ct
          . rw[bN oO]at J
            rw[ab.o p x' y' ad J,aH oO,aH oO]
        . simp[intOf]
          omega
     .
      have bs:m=L1.length:=oO;subst bs;have dv:O (T.map MR.q=(L1.map MR.q).map (kR k r.q)):=Hi (by
       apply fK;intro p;simp only[aP];rcases bB p L1.length with hp|hp
       . obtain⟨x,hx⟩:∃x,L1[p]?=some x:=⟨L1[p],gE hp⟩;obtain⟨y,hy⟩:∃y,T[p]?=some y:=⟨T[p]' oO,gE oO⟩;rw[hx,hy];simp only[lu];rw[ab.o p x y hx hy,aN hp]
       . rw[aO oO,aO hp]
         rfl)
      have bt:O (I (k+1) (T.map MR.q) ((S++ [r]).map MR.q) (hs++ [k])):=Hi (by rw[dv.o];exact aa.o);have bu:O (k+1<=wide):=Hi oO;have bv:O (T.length<=1000):=Hi oO;have bw:O ((S++ [r]).length<=k+1):=Hi (by rw[aS];simp;omega);have bx:O ((hs++ [k]).length<=k+1):=Hi (by rw[aS];simp;omega);have P:O (wide - (k+1)<wide - k):=Hi oO;have Q:S.length<=1000:=oO;have R:hs.length<=1000:=oO;obtain⟨E,hE⟩:=nm wr.drew;have Z:O (SW w E W K wide T S [r] hs (.slice (some ⟨g,0,none⟩) L1.length a8) sv hv sv hv):=Hi (by rw[<-hE];exact N.o.drew);have dw:=Hi hE;obtain⟨eh,dx,ei,ej,cu,cv,cw,az⟩:=Z.o.Ju (bE.2 rfl) ag.o k Q R;obtain⟨ek,em,en,eo,cx,cy,cz,a0⟩:=Z.o.Jt (bE.2 rfl) ag.o k Q R;obtain⟨ep,eq,er,es,c1,c2,c3,a1⟩:=Z.o.Js (bE.2 rfl) ag.o k Q R;obtain⟨bz,an,c4,ao,c6,ap,c7,c8,c9⟩:=Ih cw az cz a0 c3 a1 cu cv cx;obtain⟨da,db,dc⟩:=Ib cy c1 c2;obtain⟨et,eu,rfl,_,_,_⟩:=az.rows.slice;obtain⟨ev,ew,rfl,_,_,_⟩:=az.heads.slice;obtain⟨ex,ey,rfl,_,_,_⟩:=a0.rows.slice;obtain⟨ez,xq,rfl,_,_,_⟩:=a0.heads.slice;obtain⟨e0,e7,rfl,_,_,_⟩:=a1.rows.slice;obtain⟨e8,e9,rfl,_,_,_⟩:=a1.heads.slice;have A:=Z.o.ri;clear hE cu cv cw az cx cy cz a0 c1 c2 c3 a1 ab ar hm;go_wp2_with fail;refine eM.begin (S:=Hp (w.heap.size+1) sv hv) (D:=[11,13]) kK ?_;rw[dw.o];refine zG (i:=0) (v:=?_) rfl kK kK kK kK kK (fun _ _ _ h=>h) (fT ⟨by rfl,?_⟩) A ?_
      rotate_left
      . intro wq c;obtain⟨a2,a3⟩:=c
        first|(go_simp;done)|(go_simp;with_reducible rfl)
      (try simp only[Act.put,sA,sB,sC]);refine zG (i:=1) (v:=?_) rfl kK kK kK kK kK (fun _ _ _ h=>h) (fT ⟨by rfl,?_⟩) A ?_
      rotate_left
      . intro wq c;obtain⟨a2,a3⟩:=c
        first|(go_simp;done)|(go_simp;with_reducible rfl)
      (try simp only[Act.put,sA,sB,sC]);refine zG (i:=2) (v:=?_) rfl kK kK kK kK kK (fun _ _ _ h=>h) (fT ⟨by rfl,?_⟩) A ?_
      rotate_left
      . intro wq c;obtain⟨a2,a3⟩:=c
        first|(go_simp;done)|(go_simp;with_reducible rfl)
      (try simp only[Act.put,sA,sB,sC]);refine zG (i:=5) (v:=?_) rfl kK kK kK kK kK (fun _ _ _ h=>h) (fT ⟨by rfl,?_⟩) A ?_
      rotate_left
      . intro wq c;obtain⟨a2,a3⟩:=c
        first|(go_simp;done)|(go_simp;with_reducible rfl)
      (try simp only[Act.put,sA,sB,sC]);refine zG (i:=6) (v:=?_) rfl kK kK kK kK kK (fun _ _ _ h=>h) (fT ⟨by rfl,?_⟩) A ?_
      rotate_left
      . intro wq c;obtain⟨a2,a3⟩:=c
        first|(go_simp;done)|(go_simp;with_reducible rfl)
      (try simp only[Act.put,sA,sB,sC]);refine zV (i:=7) (v:=?_) rfl kK kK kK kK (fun _ _ _ h=>h) (fT ⟨by rfl,?_⟩) (fun _=>A) ?_
      rotate_left
      . intro wq c;clear c
        first|(go_simp;done)|(go_simp;with_reducible rfl)
      (try simp only[Act.put,sA,sB,sC]);refine kB (rs:=[3,8]) kK sS ?_;refine kT (by rfl) ?_ (kT (by rfl) ?_ nT)
      .
       intro n b;go_simp;(try dsimp only);refine b.out _ _ (fun _ _=>(Z.o.alloc _).ri) ?_;clear b n;(try simp only[Act.put,sA,sB,sC]);refine kB (rs:=[4,8]) kK sS ?_;refine kT (by rfl) ?_ (kT (by rfl) ?_ nT)
       .
        intro n b;refine BI (t:=141) rfl (.tmp 64) (.tmp 66) rfl (vs:=sv) (vx:=.slice (some ⟨E.heap.size,0,none⟩) 1 1) (by simp[Act.eval]) (by simp[Act.eval]) c7.o ?_;(try dsimp only);refine b.out _ _ (fun _ _=>bz.o.ri) ?_;clear b n;(try simp only[Act.put,sA,sB,sC]);refine zV (i:=10) (v:=?_) rfl kK kK kK kK (fun _ _ _ h=>h) (fT ⟨by rfl,?_⟩) (fun _=>bz.o.ri) ?_
        rotate_left
        . intro wq c;clear c
          first|(go_simp;done)|(go_simp;with_reducible rfl)
        (try simp only[Act.put,sA,sB,sC]);refine kB (rs:=[8]) kK sS ?_;refine kT (by rfl) ?_ nT;intro n b;go_simp;(try dsimp only);refine b.out _ _ (fun _ _=>(bz.o.alloc _).ri) ?_;clear b n;(try simp only[Act.put,sA,sB,sC]);refine kB (rs:=[9]) kK sS ?_;refine kT (by rfl) ?_ nT;intro n b;refine BI (t:=133) rfl (.tmp 69) (.tmp 71) rfl (vs:=hv) (vx:=.slice (some ⟨dx.heap.size,0,none⟩) 1 1) (by simp[Act.eval]) (by simp[Act.eval]) c8.o ?_;(try dsimp only);refine b.out _ _ (fun _ _=>an.o.ri) ?_;clear b n;(try simp only[Act.put,sA,sB,sC]);obtain⟨-,x1,x2,-⟩:=zc an.o.box;have z1:=an.o.box.free 1;have z2:=an.o.box.free 2;refine kB (rs:=[11]) kK sS ?_;refine kT (by rfl) ?_ nT;intro n b;go_simp;(try dsimp only);refine b.out _ _ (fun h=>absurd dD h) ?_;clear b n;(try simp only[Act.put,sA,sB,sC]);refine zV (i:=12) (v:=?_) rfl kK kK kK kK (fun _ _ _ h=>h) (fT ⟨by rfl,?_⟩) (fun h=>absurd h (FD (d:=11) kK kK)) ?_
        rotate_left
        . intro wq c;clear c
          first|(go_simp;done)|(go_simp;with_reducible rfl)
        (try simp only[Act.put,sA,sB,sC]);refine kB (rs:=[13]) kK sS ?_;refine kT (by rfl) ?_ nT;intro n b;go_simp;(try dsimp only);refine b.out _ _ (fun h=>absurd dD h) ?_;clear b n;(try simp only[Act.put,sA,sB,sC]);refine Mc kK ?_ _;clear x1 x2 z1 z2;have H:=an.o.put.xI Br;rw[show (S++ [r]).length=S.length+1 by simp,show (hs++ [k]).length=hs.length+1 by simp]at H;have aq:=Hi H;clear H;go_wp2_with fail;refine⟨⟨k+1,T,S++ [r],hs++ [k],_,_,bu.o,by go_num,aq.o,bt.o,bv.o,bw.o,bx.o⟩,?_⟩
        first|exact P.o|(simp only[intOf];exact P.o)|(simp [intOf];exact P.o)
       .
        intro n b;go_simp;(try dsimp only);refine b.out _ _ (fun _ _=>((Z.o.alloc _).alloc _).ri) ?_;clear b n;(try simp only[Act.put,sA,sB,sC]);refine kB (rs:=[4]) kK sS ?_;refine kT (by rfl) ?_ nT;intro n b;refine BI (t:=141) rfl (.tmp 64) (.tmp 66) rfl (vs:=sv) (vx:=.slice (some ⟨E.heap.size,0,none⟩) 1 1) (by simp[Act.eval]) (by simp[Act.eval]) c9.o ?_;(try dsimp only);refine b.out _ _ (fun _ _=>c4.o.ri) ?_;clear b n;(try simp only[Act.put,sA,sB,sC]);refine zV (i:=10) (v:=?_) rfl kK kK kK kK (fun _ _ _ h=>h) (fT ⟨by rfl,?_⟩) (fun _=>c4.o.ri) ?_
        rotate_left
        . intro wq c;clear c
          first|(go_simp;done)|(go_simp;with_reducible rfl)
        (try simp only[Act.put,sA,sB,sC]);refine kB (rs:=[9]) kK sS ?_;refine kT (by rfl) ?_ nT;intro n b;refine BI (t:=133) rfl (.tmp 69) (.tmp 71) rfl (vs:=hv) (vx:=.slice (some ⟨E.heap.size+1,0,none⟩) 1 1) (by simp[Act.eval]) (by simp[Act.eval]) da.o ?_;(try dsimp only);refine b.out _ _ (fun _ _=>ao.o.ri) ?_;clear b n;(try simp only[Act.put,sA,sB,sC]);obtain⟨-,x1,x2,-⟩:=zc ao.o.box;have z1:=ao.o.box.free 1;have z2:=ao.o.box.free 2;refine kB (rs:=[11]) kK sS ?_;refine kT (by rfl) ?_ nT;intro n b;go_simp;(try dsimp only);refine b.out _ _ (fun h=>absurd dD h) ?_;clear b n;(try simp only[Act.put,sA,sB,sC]);refine zV (i:=12) (v:=?_) rfl kK kK kK kK (fun _ _ _ h=>h) (fT ⟨by rfl,?_⟩) (fun h=>absurd h (FD (d:=11) kK kK)) ?_
        rotate_left
        . intro wq c;clear c
          first|(go_simp;done)|(go_simp;with_reducible rfl)
        (try simp only[Act.put,sA,sB,sC]);refine kB (rs:=[13]) kK sS ?_;refine kT (by rfl) ?_ nT;intro n b;go_simp;(try dsimp only);refine b.out _ _ (fun h=>absurd dD h) ?_;clear b n;(try simp only[Act.put,sA,sB,sC]);refine Mc kK ?_ _;clear x1 x2 z1 z2;have H:=ao.o.put.xI Br;rw[show (S++ [r]).length=S.length+1 by simp,show (hs++ [k]).length=hs.length+1 by simp]at H;have aq:=Hi H;clear H;go_wp2_with fail;refine⟨⟨k+1,T,S++ [r],hs++ [k],_,_,bu.o,by go_num,aq.o,bt.o,bv.o,bw.o,bx.o⟩,?_⟩
        first|exact P.o|(simp only[intOf];exact P.o)|(simp [intOf];exact P.o)
      .
       intro n b;go_simp;(try dsimp only);refine b.out _ _ (fun _ _=>(Z.o.alloc _).ri) ?_;clear b n;(try simp only[Act.put,sA,sB,sC]);refine kB (rs:=[3]) kK sS ?_;refine kT (by rfl) ?_ nT;intro n b;go_simp;(try dsimp only);refine b.out _ _ (fun _ _=>((Z.o.alloc _).alloc _).ri) ?_;clear b n;(try simp only[Act.put,sA,sB,sC]);refine kB (rs:=[4]) kK sS ?_;refine kT (by rfl) ?_ nT;intro n b;refine BI (t:=141) rfl (.tmp 64) (.tmp 66) rfl (vs:=sv) (vx:=.slice (some ⟨E.heap.size+1,0,none⟩) 1 1) (by simp[Act.eval]) (by simp[Act.eval]) db.o ?_;(try dsimp only);refine b.out _ _ (fun _ _=>c6.o.ri) ?_;clear b n;(try simp only[Act.put,sA,sB,sC]);refine zV (i:=10) (v:=?_) rfl kK kK kK kK (fun _ _ _ h=>h) (fT ⟨by rfl,?_⟩) (fun _=>c6.o.ri) ?_
       rotate_left
       . intro wq c;clear c
         first|(go_simp;done)|(go_simp;with_reducible rfl)
       (try simp only[Act.put,sA,sB,sC]);refine kB (rs:=[9]) kK sS ?_;refine kT (by rfl) ?_ nT;intro n b;refine BI (t:=133) rfl (.tmp 69) (.tmp 71) rfl (vs:=hv) (vx:=.slice (some ⟨E.heap.size,0,none⟩) 1 1) (by simp[Act.eval]) (by simp[Act.eval]) dc.o ?_;(try dsimp only);refine b.out _ _ (fun _ _=>ap.o.ri) ?_;clear b n;(try simp only[Act.put,sA,sB,sC]);obtain⟨-,x1,x2,-⟩:=zc ap.o.box;have z1:=ap.o.box.free 1;have z2:=ap.o.box.free 2;refine kB (rs:=[11]) kK sS ?_;refine kT (by rfl) ?_ nT;intro n b;go_simp;(try dsimp only);refine b.out _ _ (fun h=>absurd dD h) ?_;clear b n;(try simp only[Act.put,sA,sB,sC]);refine zV (i:=12) (v:=?_) rfl kK kK kK kK (fun _ _ _ h=>h) (fT ⟨by rfl,?_⟩) (fun h=>absurd h (FD (d:=11) kK kK)) ?_
       rotate_left
       . intro wq c;clear c
         first|(go_simp;done)|(go_simp;with_reducible rfl)
       (try simp only[Act.put,sA,sB,sC]);refine kB (rs:=[13]) kK sS ?_;refine kT (by rfl) ?_ nT;intro n b;go_simp;(try dsimp only);refine b.out _ _ (fun h=>absurd dD h) ?_;clear b n;(try simp only[Act.put,sA,sB,sC]);refine Mc kK ?_ _;clear x1 x2 z1 z2;have H:=ap.o.put.xI Br;rw[show (S++ [r]).length=S.length+1 by simp,show (hs++ [k]).length=hs.length+1 by simp]at H;have aq:=Hi H;clear H;go_wp2_with fail;refine⟨⟨k+1,T,S++ [r],hs++ [k],_,_,bu.o,by go_num,aq.o,bt.o,bv.o,bw.o,bx.o⟩,?_⟩
       first|exact P.o|(simp only[intOf];exact P.o)|(simp [intOf];exact P.o)
  . have bs:k=wide:=oO;subst bs;obtain⟨t1,t2,rfl,_,_,_⟩:=N.o.rows.slice;obtain⟨s1,s2,rfl,_,_,_⟩:=N.o.heads.slice;obtain⟨x0,x1,x2,-⟩:=zc N.o.box;obtain⟨y0,y1,y2,-⟩:=zc N.o.res;have f0:=N.o.res.free 0;have f1:=N.o.res.free 1;have f2:=N.o.res.free 2;clear hS;go_wp2;obtain⟨e1,e2,e3,e4⟩:=N.o.done (.int .i64 k) (.slice t1 S.length t2) (.slice s1 hs.length s2);refine bK (v:=.agg #[.int .i64 k,.slice t1 S.length t2,.slice s1 hs.length s2]) (bG rfl _ _ w.heap.size 183 #[.int .i64 k,.slice t1 S.length t2,.slice s1 hs.length s2] (0,0) _ rfl (((N.o.res.set 0 _).set 1 _).set 2 _) underlying183 rfl Tryz.xf) rfl ?_;exact⟨⟨L,S,hs,_,_,rfl,HJ.o,oO,oO,e1,e2,e3⟩,e4⟩
end Go.Proofs.YtfgclhpgdanmfaaGreatDoor
