/- package arch: corners, an iterator over lines. -/
import Derived.RangeFuncBound
import Derived.RangeFuncCalls
import Derived.Shelf.Abstract
import Derived.Shelf.RegionOpen
import Derived.OwnWalkIn
import Derived.TacticsInMore
import Derived.LoopNIn
import Derived.LoopIn
import Derived.Test.YtldjeecnapgakaaGreatDoorS37RngO
namespace Go.Proofs.YtldjeecnapgakaaGreatDoor
open Go Go.RowKit Go.Shelf
set_option linter.unusedVariables false
set_option linter.unusedSimpArgs false
attribute [local go_sem] Oper.semAt_some
abbrev Crn:=Nat × Nat × Value
def stC(vs:List V4)(h:Rat)(i:Nat):Rat:=loF vs i - shp (atF vs) (wtF vs) h i
def slC(vs:List V4)(h:Rat)(i j:Nat):Rat:=(hiF vs j - shp (atF vs) (wtF vs) h j - stC vs h i) / (atF vs j - atF vs i)
def kC1(A H:Nat):Nat:=A+(52*A+36*H+61)+1
def kC2(A H:Nat):Nat:=kC1 A H+kC1 A H+1+(A+A+1)
def OkC(vs:List V4)(h:Rat)(A H:Nat)(x:Crn)(w:World):Prop:=x.1<x.2.1∧x.2.1<vs.length∧LineV (stC vs h x.1) (slC vs h x.1 x.2.1) (atF vs x.1) (kC1 A H) (kC2 A H) A x.2.2 w
def AllC(n:Nat)(xs:List Crn):Prop:=∀i j,i<j→j<n→∃v,(i,j,v)∈ xs
theorem Qjw(g n:Nat)(w:World):Calls Tryz.prog 36 #[.slice (some ⟨g,0,none⟩) n n] w fun e w'=>e=.returned (.func (.func 82) #[] #[.pointer (some ⟨w.heap.size,0,none⟩)])∧w'=w.alloc (.cells #[.slice (some ⟨g,0,none⟩) n n] 68):=by
 go_enter Tryz.func36,Tryz.ntmps36;go_wp2;go_ret;exact⟨rfl,rfl⟩
set_option maxRecDepth 100000 in
set_option maxHeartbeats 4000000 in
theorem Qjx{g A H b m:Nat}{vs:List V4}{h:Rat}{ts:List FE}{w:World}(ht:TBlk 82 w g ts)(hs:Sto A H vs h ts vs.length)(hn:vs.length≤10)(hb:SB w b 68 #[.slice (some ⟨g,0,none⟩) vs.length vs.length])(hA:A≤5000000)(hH:H≤40000000)(hm:1≤m):
 Over Fence.wide m Tryz.prog 82 #[.pointer (some ⟨b,0,none⟩)] (fun x:Crn=>x.2.2) (OkC vs h A H) (AllC vs.length) (fun _=>True) w:=by
 intro l J Jx W hbW hl hJb hJl hY h0;obtain⟨n,hnn⟩:∃n,vs.length=n:=⟨_,rfl⟩;have HT:=Hi ht;have HS:=Hi hs;have HSB:=Hi hb;have HJB:=Hi hJb;have HJL:=Hi hJl;have HY:=Hi hY;have HJ0:=Hi h0;rw[hnn] at hn HSB ⊢;have HNN:=Hi hnn;have HBW:=Hi hbW;have hltb:b<W.heap.size:=Nat.lt_of_lt_of_le hb.lt hbW.size;clear ht hs hb hJb hJl hY h0 hnn hbW;have c0:W.cell? ⟨b,0,none⟩=some (.slice (some ⟨g,0,none⟩) n n):=(HSB.out.below HBW.out HSB.out.lt).cell 0;refine callsIn_of_wp Tryz.func82 rfl trivial ?_ rfl;simp only[Tryz.ntmps82,List.size_toArray,List.length_cons,List.length_nil,Nat.reduceAdd,Nat.reduceSub,Array.replicate_succ,Array.replicate_zero,List.push_toArray,List.append_toArray,List.nil_append,List.cons_append]
 gi_wp2
 gi_loopw [9] (fun iv wr=>∃(k:Nat) (pre:List Crn),k≤n∧iv=.int .i64 k∧(∀i j,i<k→i<j→j<n→∃v,(i,j,v)∈ pre)∧J pre wr) (fun iv _=>n - (intOf iv).toNat)
 case atStart=>exact⟨0,[],Nat.zero_le _,rfl,fun i j hi=>by omega,HJ0.out⟩
 case round=>
  obtain⟨k,pre,hk,rfl,hpre,hj⟩:=hrel;have HJ:=Hi hj;have HPRE:=Hi hpre;have hjl:=HJL.out pre wr hj;have HBR:=Hi hjl.2.2;clear hj hpre hjl c0 hltb;by_cases hkn:k<n
  ·
   obtain⟨v,hv⟩:∃v,vs[k]?=some v:=⟨vs[k]'(by have:=HNN.out;omega),List.getElem?_eq_getElem _⟩;have htw:=HT.out.below HBR.out;obtain⟨pa,pl,pu,ps,⟨i1,i2,i3,i4⟩,h1,h2,h3,h4⟩:=HS.out.get htw (by have:=HNN.out;omega) (by have:=HNN.out;omega) hv;obtain⟨t0,t1,t2,t3,t4,t5,t6,t7,t8,t9,t10,t11⟩:=htw.stone i1 i2 i3 i4;obtain⟨o1,o2,o3⟩:=h1.1.one;obtain⟨o4,o5,o6⟩:=h2.1.one;obtain⟨o7,o8,o9⟩:=h3.1.one;obtain⟨o10,o11,o12⟩:=h4.1.one;have s1:=Qab Tryz.prog o1;have s2:=Qab Tryz.prog o2;have s3:=Qab Tryz.prog o3;have s4:=Qab Tryz.prog o4;have s5:=Qab Tryz.prog o5;have s6:=Qab Tryz.prog o6;have s7:=Qab Tryz.prog o7;have s8:=Qab Tryz.prog o8;have s9:=Qab Tryz.prog o9;have s10:=Qab Tryz.prog o10;have s11:=Qab Tryz.prog o11;have s12:=Qab Tryz.prog o12;clear o1 o2 o3 o4 o5 o6 o7 o8 o9 o10 o11 o12;have hbb:=(HSB.out.below HBR.out HSB.out.lt);obtain⟨b4,hb4⟩:∃b4,wr.heap.size=b4:=⟨_,rfl⟩
   obtain⟨V,hV⟩:∃V,wr.alloc (.cells #[pa.x,pa.y,pa.z,pl.x,pl.y,pl.z,pu.x,pu.y,pu.z,ps.x,ps.y,ps.z] 82)=V:=⟨_,rfl⟩;have hBV:Below wr.heap.size wr V:=by rw[←hV];exact(Below.refl _ _).alloc (Nat.le_refl _) _
   have HP4:Hid (SB V b4 82 #[pa.x,pa.y,pa.z,pl.x,pl.y,pl.z,pu.x,pu.y,pu.z,ps.x,ps.y,ps.z]):=Hi (by rw[←hV,←hb4];exact SB.new wr _ _);have HJV:=Hi (HJB.out pre wr V HJ.out hBV);have cb:V.cell? ⟨b,0,none⟩=some (.slice (some ⟨g,0,none⟩) n n):=(hbb.below hBV hbb.lt).cell 0;rw[←hV] at cb;have HV:=Hi hV;have HB4:=Hi hb4;have q1:((k:Int)<(n:Int)):=by omega
   have HPI:=Hi (And.intro i1 (And.intro i2 (And.intro i3 i4)));have HVK:=Hi hv;clear htw h1 h2 h3 h4 hbb hb4 hV hBV i1 i2 i3 i4 hv;rcases Nat.lt_or_ge (k+1) n with hk1|hk1
   ·
    have hne:¬n=k+1:=by omega
    gi_wp2
    rw[HV.out];simp only[HB4.out];clear s1 s2 s3 s4 s5 s6 s7 s8 s9 s10 s11 s12;clear t0 t1 t2 t3 t4 t5 t6 t7 t8 t9 t10 t11 cb
    gi_loopw [19] (fun iv wr=>∃(q:Nat) (pre':List Crn),q≤n - (k+1)∧iv=.int .i64 q∧(∀x,x∈ pre→x∈ pre')∧(∀j,k<j→j<k+1+q→∃v,(k,j,v)∈ pre')∧J pre' wr∧SB wr b4 82 #[pa.x,pa.y,pa.z,pl.x,pl.y,pl.z,pu.x,pu.y,pu.z,ps.x,ps.y,ps.z]) (fun iv _=>n - (k+1) - (intOf iv).toNat)
    case atStart=>exact⟨0,pre,Nat.zero_le _,rfl,fun x hx=>hx,fun j hj hj'=>by omega,HJV.out,HP4.out⟩
    case round=>
     obtain⟨q,pre',hq,rfl,hsub,hin,hj',hsb4⟩:=hrel;have HJ':=Hi hj';have HSUB:=Hi hsub;have HIN:=Hi hin;have HS4:=Hi hsb4;obtain⟨hnc,hll,hbr⟩:=HJL.out pre' wr hj';have HNC:=Hi hnc;have HBR':=Hi hbr;clear hj' hsub hin hsb4 hnc hbr;by_cases hqn:q<n - (k+1)
     ·
      obtain⟨v',hv'⟩:∃v',vs[k+1+q]?=some v':=⟨vs[k+1+q]'(by have:=HNN.out;omega),List.getElem?_eq_getElem _⟩;have htw:=HT.out.below HBR'.out;obtain⟨qa,ql,qu,qs,⟨i1,i2,i3,i4⟩,h1,h2,h3,h4⟩:=HS.out.get htw (by have:=HNN.out;omega) (by have:=HNN.out;omega) hv';obtain⟨t0,t1,t2,t3,t4,t5,t6,t7,t8,t9,t10,t11⟩:=htw.stone i1 i2 i3 i4;have e12:(k+1+q)*12=(k+1)*12+q*12:=by omega
      rw[e12] at t0 t1 t2 t3 t4 t5 t6 t7 t8 t9 t10 t11;obtain⟨pa',pl',pu',ps',⟨k1,k2,k3,k4⟩,g1,g2,g3,g4⟩:=HS.out.get htw (i:=k) (by have:=HNN.out;omega) (by have:=HNN.out;omega) HVK.out;obtain⟨m1,m2,m3,m4⟩:=HPI.out;obtain rfl:=Option.some.inj (k1.symm.trans m1);obtain rfl:=Option.some.inj (k2.symm.trans m2);obtain rfl:=Option.some.inj (k3.symm.trans m3);obtain rfl:=Option.some.inj (k4.symm.trans m4);obtain⟨o1,o2,o3⟩:=h1.1.one;obtain⟨o4,o5,o6⟩:=h2.1.one;obtain⟨o7,o8,o9⟩:=h3.1.one;obtain⟨o10,o11,o12⟩:=h4.1.one;have s1:=Qab Tryz.prog o1;have s2:=Qab Tryz.prog o2;have s3:=Qab Tryz.prog o3;have s4:=Qab Tryz.prog o4;have s5:=Qab Tryz.prog o5;have s6:=Qab Tryz.prog o6;have s7:=Qab Tryz.prog o7;have s8:=Qab Tryz.prog o8;have s9:=Qab Tryz.prog o9;have s10:=Qab Tryz.prog o10;have s11:=Qab Tryz.prog o11;have s12:=Qab Tryz.prog o12;clear o1 o2 o3 o4 o5 o6 o7 o8 o9 o10 o11 o12
      obtain⟨b6,hb6⟩:∃b6,wr.heap.size=b6:=⟨_,rfl⟩;obtain⟨Z,hZ⟩:∃Z,wr.alloc (.cells #[qa.x,qa.y,qa.z,ql.x,ql.y,ql.z,qu.x,qu.y,qu.z,qs.x,qs.y,qs.z] 82)=Z:=⟨_,rfl⟩;have hBZ:Below wr.heap.size wr Z:=by rw[←hZ];exact(Below.refl _ _).alloc (Nat.le_refl _) _
      have SP:=Hi (SV4.of (g1.below hBZ) (g2.below hBZ) (g3.below hBZ) (g4.below hBZ));have SQ:=Hi (SV4.of (h1.below hBZ) (h2.below hBZ) (h3.below hBZ) (h4.below hBZ));have FL:=Hi (g2.below hBZ);have FU:=Hi (h3.below hBZ);have hs4z:=HS4.out.below hBZ HS4.out.lt;have p0:=hs4z.cell 0;have p1:=hs4z.cell 1;have p2:=hs4z.cell 2;have p3:=hs4z.cell 3;have p4:=hs4z.cell 4;have p5:=hs4z.cell 5;have p6:=hs4z.cell 6;have p7:=hs4z.cell 7;have p8:=hs4z.cell 8;have p9:=hs4z.cell 9;have p10:=hs4z.cell 10;have p11:=hs4z.cell 11;simp only[List.getElem?_toArray,List.getElem?_cons_zero,List.getElem?_cons_succ] at p0 p1 p2 p3 p4 p5 p6 p7 p8 p9 p10 p11;rw[←hZ] at p0 p1 p2 p3 p4 p5 p6 p7 p8 p9 p10 p11;have HZ:=Hi hZ;have HB6:=Hi hb6;have HBZ:=Hi hBZ;have HVQ:=Hi hv';have q2:((q:Int)<((n - (k+1):Nat):Int)):=by omega
      clear htw h1 h2 h3 h4 g1 g2 g3 g4 k1 k2 k3 k4 m1 m2 m3 m4 i1 i2 i3 i4 hs4z hZ hb6 hBZ hv' e12
      gi_wp2
      rw[HZ.out];simp only[HB6.out];clear s1 s2 s3 s4 s5 s6 s7 s8 s9 s10 s11 s12;clear t0 t1 t2 t3 t4 t5 t6 t7 t8 t9 t10 t11 p0 p1 p2 p3 p4 p5 p6 p7 p8 p9 p10 p11;refine⟨trivial,callsIn_wide.2 (Makes.use (Qfl SP.out FL.out SQ.out FU.out (by omega)) ?_)⟩;intro vy w2 hb2 hy;have hlo:loF vs k=v.2.2.1:=by have:=HVK.out;simp[loF,this]
      have hhi:hiF vs (k+1+q)=v'.2.2.2:=by have:=HVQ.out;simp[hiF,this]
      have ha1:atF vs k=v.1:=by have:=HVK.out;simp[atF,this]
      have ha2:atF vs (k+1+q)=v'.1:=by have:=HVQ.out;simp[atF,this]
      rw[←hlo,←hhi,←ha1,←ha2] at hy;have hbw2:=HBZ.out.trans (hb2.mono HBZ.out.size);have hok:OkC vs h A H (k,k+1+q,vy) w2:=⟨by show k<k+1+q;omega,by rw[HNN.out];show k+1+q<n;omega,hy⟩;have hj2:=HJB.out pre' wr w2 HJ'.out hbw2;have HS42:=Hi (HS4.out.below hbw2 HS4.out.lt);have HNC2:=Hi (HJL.out pre' w2 hj2).1;obtain⟨fn,tmps,asg,bdy,hyy,hR⟩:=HY.out pre' (k,k+1+q,vy) w2 hj2 hok;dsimp only at hyy;have HR:=Hi hR;clear hlo hhi ha1 ha2 hy hok hj2 hb2 hbw2 hR
      gi_wp2
      refine HR.out.mono ?_;rintro e W3 (⟨rfl,hJ3,ho3⟩|⟨rfl,hJx3⟩)
      ·
       have HJ3:=Hi hJ3;have HS43:Hid (SB W3 b4 82 #[pa'.x,pa'.y,pa'.z,pl'.x,pl'.y,pl'.z,pu'.x,pu'.y,pu'.z,ps'.x,ps'.y,ps'.z]):=Hi (HS42.out.only ho3 (by
        rintro rfl;have:=HNC2.out _ HS42.out
        cases this))
       clear hJ3 ho3 hyy
       gi_wp2
       go_roundw
       case rel=>
        refine⟨q+1,pre'++ [(k,k+1+q,vy)],by omega,by go_num,fun x hx=>List.mem_append_left _ (HSUB.out x hx),fun j hj hj'=>?_,HJ3.out,HS43.out⟩;rcases Nat.lt_or_ge j (k+1+q) with h1|h1
        · obtain⟨u,hu⟩:=HIN.out j hj h1
          exact⟨u,List.mem_append_left _ hu⟩
        · exact⟨vy,by rw[show j=k+1+q by omega];simp⟩
       case measure=>simp[intOf];omega
      ·
       have HJX:=Hi hJx3;clear hJx3 hyy
       gi_wp2
       refine bodyPost_ret (results_none rfl _ _ _) rfl ?_;exact⟨⟨_,rfl⟩,.inr ⟨_,trivial,HJX.out⟩⟩
     ·
      have hq':q=n - (k+1):=by omega
      have q3:¬((q:Int)<((n - (k+1):Nat):Int)):=by omega
      gi_wp2
      go_roundw
      case rel=>
       refine⟨k+1,pre',by omega,by go_num,fun i j hi hij hj=>?_,HJ'.out⟩;rcases Nat.lt_or_ge i k with h1|h1
       · obtain⟨u,hu⟩:=HPRE.out i j h1 hij hj
         exact⟨u,HSUB.out _ hu⟩
       · obtain rfl:i=k:=by omega
         exact HIN.out j hij (by omega)
      case measure=>simp[intOf];omega
   ·
    obtain rfl:n=k+1:=by omega
    gi_wp2
    rw[HV.out];simp only[HB4.out];clear s1 s2 s3 s4 s5 s6 s7 s8 s9 s10 s11 s12;clear t0 t1 t2 t3 t4 t5 t6 t7 t8 t9 t10 t11 cb
    gi_loopw [19] (fun iv wr=>iv=.int .i64 0∧J pre wr) (fun iv _=>0)
    case atStart=>exact⟨rfl,HJV.out⟩
    case round=>
     obtain⟨rfl,hj'⟩:=hrel;have HJ':=Hi hj';clear hj'
     gi_wp2
     go_roundw
     case rel=>
      refine⟨k+1,pre,by omega,by go_num,fun i j hi hij hj=>?_,HJ'.out⟩;rcases Nat.lt_or_ge i k with h1|h1
      · exact HPRE.out i j h1 hij hj
      · omega
     case measure=>simp[intOf]
  ·
   obtain rfl:k=n:=by omega
   gi_wp2
   go_end0;exact⟨⟨_,rfl⟩,.inl ⟨pre,fun i j hij hj=>HPRE.out i j (by omega) hij hj,HJ.out⟩⟩
end Go.Proofs.YtldjeecnapgakaaGreatDoor
