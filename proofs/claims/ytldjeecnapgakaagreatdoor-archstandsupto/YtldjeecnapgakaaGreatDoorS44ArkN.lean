/- package arch: threes, an iterator over threes of stones. -/
import Derived.Test.YtldjeecnapgakaaGreatDoorS42RngP
import Derived.Test.YtldjeecnapgakaaGreatDoorS40ArkS
namespace Go.Proofs.YtldjeecnapgakaaGreatDoor
open Go Go.RowKit Go.Shelf
set_option linter.unusedVariables false
set_option linter.unusedSimpArgs false
attribute [local go_sem] Oper.semAt_some
def stn(ts:List FE)(i:Nat):S4:=⟨ts.getD (i*4) FE.nil,ts.getD (i*4+1) FE.nil,ts.getD (i*4+2) FE.nil,ts.getD (i*4+3) FE.nil⟩
abbrev Thr:=Nat × Nat × Nat
def encT(ts:List FE)(x:Thr):Value:=.agg (S4.cells3 (stn ts x.1) (stn ts x.2.1) (stn ts x.2.2))
def OkT(g n:Nat)(ts:List FE)(x:Thr)(w:World):Prop:=x.1<x.2.1∧x.2.1<x.2.2∧x.2.2<n∧TBlk 82 w g ts
def AllT(n:Nat)(xs:List Thr):Prop:=∀i j k,i<j→j<k→k<n→(i,j,k)∈ xs
def EnvT(g b n:Nat)(ts:List FE)(w:World):Prop:=TBlk 82 w g ts∧SB w b 68 #[.slice (some ⟨g,0,none⟩) n n]
def S4.box(s:S4):Array Value:=#[s.a.x,s.a.y,s.a.z,s.l.x,s.l.y,s.l.z,s.u.x,s.u.y,s.u.z,s.s.x,s.s.y,s.s.z]
theorem getD_some{ts:List FE}{i:Nat}(h:i<ts.length):ts[i]?=some (ts.getD i FE.nil):=by
 rw[List.getElem?_eq_getElem h,List.getD_eq_getElem?_getD,List.getElem?_eq_getElem h];rfl
section
variable {T:TypeId} {w:World} {g n i:Nat} {ts:List FE}
theorem TBlk.stoneAt(h:TBlk T w g ts)(hl:ts.length=n*4)(hi:i<n):w.cell? ⟨g,i*12,none⟩=some (stn ts i).a.x∧w.cell? ⟨g,i*12+1,none⟩=some (stn ts i).a.y∧w.cell? ⟨g,i*12+2,none⟩=some (stn ts i).a.z∧w.cell? ⟨g,i*12+3,none⟩=some (stn ts i).l.x∧w.cell? ⟨g,i*12+4,none⟩=some (stn ts i).l.y∧w.cell? ⟨g,i*12+5,none⟩=some (stn ts i).l.z∧w.cell? ⟨g,i*12+6,none⟩=some (stn ts i).u.x∧w.cell? ⟨g,i*12+7,none⟩=some (stn ts i).u.y∧w.cell? ⟨g,i*12+8,none⟩=some (stn ts i).u.z∧w.cell? ⟨g,i*12+9,none⟩=some (stn ts i).s.x∧w.cell? ⟨g,i*12+10,none⟩=some (stn ts i).s.y∧w.cell? ⟨g,i*12+11,none⟩=some (stn ts i).s.z:=
 h.stone (getD_some (by omega)) (getD_some (by omega)) (getD_some (by omega)) (getD_some (by omega))
theorem TBlk.okAt(h:TBlk T w g ts)(hl:ts.length=n*4)(hi:i<n):FE.ok w (stn ts i).a∧FE.ok w (stn ts i).l∧FE.ok w (stn ts i).u∧FE.ok w (stn ts i).s:=
 ⟨h.ok _ (List.mem_of_getElem? (getD_some (by omega))),h.ok _ (List.mem_of_getElem? (getD_some (by omega))),h.ok _ (List.mem_of_getElem? (getD_some (by omega))),h.ok _ (List.mem_of_getElem? (getD_some (by omega)))⟩
theorem S4.at{s:S4}(h:SB w g T s.box):w.cell? ⟨g,0,none⟩=some s.a.x∧w.cell? ⟨g,1,none⟩=some s.a.y∧w.cell? ⟨g,2,none⟩=some s.a.z∧w.cell? ⟨g,3,none⟩=some s.l.x∧w.cell? ⟨g,4,none⟩=some s.l.y∧w.cell? ⟨g,5,none⟩=some s.l.z∧w.cell? ⟨g,6,none⟩=some s.u.x∧w.cell? ⟨g,7,none⟩=some s.u.y∧w.cell? ⟨g,8,none⟩=some s.u.z∧w.cell? ⟨g,9,none⟩=some s.s.x∧w.cell? ⟨g,10,none⟩=some s.s.y∧w.cell? ⟨g,11,none⟩=some s.s.z:=
 ⟨(h.cell 0).trans rfl,(h.cell 1).trans rfl,(h.cell 2).trans rfl,(h.cell 3).trans rfl,(h.cell 4).trans rfl,(h.cell 5).trans rfl,(h.cell 6).trans rfl,(h.cell 7).trans rfl,(h.cell 8).trans rfl,(h.cell 9).trans rfl,(h.cell 10).trans rfl,(h.cell 11).trans rfl⟩
end
theorem Qj3(g n:Nat)(w:World):Calls Tryz.prog 67 #[.slice (some ⟨g,0,none⟩) n n] w fun e w'=>e=.returned (.func (.func 114) #[] #[.pointer (some ⟨w.heap.size,0,none⟩)])∧w'=w.alloc (.cells #[.slice (some ⟨g,0,none⟩) n n] 68):=by
 go_enter Tryz.func67,Tryz.ntmps67;go_wp2;go_ret;exact⟨rfl,rfl⟩
set_option maxRecDepth 100000 in
set_option maxHeartbeats 4000000 in
theorem Qj4{g b n m R B:Nat}{ts:List FE}(hl:ts.length=n*4)(hn:n≤10)(hm:1≤m)(hRB:R<B):
 OverR R (EnvT g b n ts) Fence.wide m Tryz.prog 114 #[.pointer (some ⟨b,0,none⟩)] (encT ts) (OkT g n ts) (AllT n) (fun _=>True) B:=by
 intro l J Jx W hBl hJb hJl hY h0;have HLE:=Hi hl;have HJB:=Hi hJb;have HJL:=Hi hJl;have HY:=Hi hY;have HJ0:=Hi h0;have c0:=(hJl [] W h0).2.2.2.2.cell 0;simp only[List.getElem?_toArray,List.getElem?_cons_zero] at c0;clear hl hJb hJl hY h0;refine callsIn_of_wp Tryz.func114 rfl trivial ?_ rfl;simp only[Tryz.ntmps114,List.size_toArray,List.length_cons,List.length_nil,Nat.reduceAdd,Nat.reduceSub,Array.replicate_succ,Array.replicate_zero,List.push_toArray,List.append_toArray,List.nil_append,List.cons_append]
 gi_wp2
 gi_loopw [11] (fun iv wr=>∃(k:Nat) (pre:List Thr),k≤n∧iv=.int .i64 k∧(∀i j k',i<j→j<k'→k'<k→(i,j,k')∈ pre)∧J pre wr) (fun iv _=>n - (intOf iv).toNat)
 case atStart=>exact⟨0,[],Nat.zero_le _,rfl,fun i j k hi hj hk=>by omega,HJ0.out⟩
 case round=>
  obtain⟨k,pre,hk,rfl,hpre,hj⟩:=hrel;have HJ:=Hi hj;have HPRE:=Hi hpre;clear hj hpre c0;by_cases hkn:k<n
  ·
   have he:=(HJL.out pre wr HJ.out).2.2.2;obtain⟨t0,t1,t2,t3,t4,t5,t6,t7,t8,t9,t10,t11⟩:=he.1.stoneAt HLE.out (i:=k) (by omega);obtain⟨h1,h2,h3,h4⟩:=he.1.okAt HLE.out (i:=k) (by omega);obtain⟨t,hx⟩:∃x,stn ts k=x:=⟨_,rfl⟩;rw[hx] at t0 t1 t2 t3 t4 t5 t6 t7 t8 t9 t10 t11 h1 h2 h3 h4;obtain⟨o1,o2,o3⟩:=h1.1.one;obtain⟨o4,o5,o6⟩:=h2.1.one;obtain⟨o7,o8,o9⟩:=h3.1.one;obtain⟨o10,o11,o12⟩:=h4.1.one;have s1:=Qab Tryz.prog o1;have s2:=Qab Tryz.prog o2;have s3:=Qab Tryz.prog o3;have s4:=Qab Tryz.prog o4;have s5:=Qab Tryz.prog o5;have s6:=Qab Tryz.prog o6;have s7:=Qab Tryz.prog o7;have s8:=Qab Tryz.prog o8;have s9:=Qab Tryz.prog o9;have s10:=Qab Tryz.prog o10;have s11:=Qab Tryz.prog o11;have s12:=Qab Tryz.prog o12;clear o1 o2 o3 o4 o5 o6 o7 o8 o9 o10 o11 o12;obtain⟨b4,hbx⟩:∃bx,wr.heap.size=bx:=⟨_,rfl⟩
   obtain⟨V4,hV⟩:∃V,wr.alloc (.cells #[t.a.x,t.a.y,t.a.z,t.l.x,t.l.y,t.l.z,t.u.x,t.u.y,t.u.z,t.s.x,t.s.y,t.s.z] 82)=V:=⟨_,rfl⟩;have hBV:Below wr.heap.size wr V4:=by rw[←hV];exact(Below.refl _ _).alloc (Nat.le_refl _) _
   have HS4:Hid (SB V4 b4 82 t.box):=Hi (by rw[←hV,←hbx];exact SB.new wr _ _);have hRX:R<b4:=by rw[←hbx];exact Nat.lt_of_lt_of_le hRB (HJL.out pre wr HJ.out).2.2.1
   have HV4:=Hi hV;have HB4:=Hi hbx;have HJN:=Hi (HJB.out pre wr V4 HJ.out hBV);have HSBV:=Hi hBV;have HXE:=Hi hx;have cb:=(HJL.out pre V4 HJN.out).2.2.2.2.cell 0;simp only[List.getElem?_toArray,List.getElem?_cons_zero] at cb;rw[←hV] at cb;clear he h1 h2 h3 h4 hx hbx hV hBV;have HJ4:=HJN;have hR4:=hRX;have HTE:=HXE;have q1:((k:Int)<(n:Int)):=by omega
   clear HJN hRX HXE HSBV
   gi_wp2
   rw[HV4.out];simp only[HB4.out];clear s1 s2 s3 s4 s5 s6 s7 s8 s9 s10 s11 s12;clear t0 t1 t2 t3 t4 t5 t6 t7 t8 t9 t10 t11 cb
   gi_loopw [20] (fun iv wr=>∃(q:Nat) (pre':List Thr),q≤k∧iv=.int .i64 q∧(∀x,x∈ pre→x∈ pre')∧(∀i j,i<j→j<q→(i,j,k)∈ pre')∧J pre' wr∧SB wr b4 82 t.box) (fun iv _=>k - (intOf iv).toNat)
   case atStart=>exact⟨0,pre,Nat.zero_le _,rfl,fun x hx=>hx,fun i j hi hj'=>by omega,HJ4.out,HS4.out⟩
   case round=>
    obtain⟨q,pre',hq,rfl,hsub,hin,hj',hs4⟩:=hrel;have HJ':=Hi hj';have HSUB:=Hi hsub;have HIN:=Hi hin;have HS4':=Hi hs4;clear hj' hsub hin hs4 HJ4 HS4;by_cases hqk:q<k
    ·
     have he:=(HJL.out pre' wr HJ'.out).2.2.2;obtain⟨t0,t1,t2,t3,t4,t5,t6,t7,t8,t9,t10,t11⟩:=he.1.stoneAt HLE.out (i:=q) (by omega);obtain⟨h1,h2,h3,h4⟩:=he.1.okAt HLE.out (i:=q) (by omega);obtain⟨s,hx⟩:∃x,stn ts q=x:=⟨_,rfl⟩;rw[hx] at t0 t1 t2 t3 t4 t5 t6 t7 t8 t9 t10 t11 h1 h2 h3 h4;obtain⟨o1,o2,o3⟩:=h1.1.one;obtain⟨o4,o5,o6⟩:=h2.1.one;obtain⟨o7,o8,o9⟩:=h3.1.one;obtain⟨o10,o11,o12⟩:=h4.1.one;have s1:=Qab Tryz.prog o1;have s2:=Qab Tryz.prog o2;have s3:=Qab Tryz.prog o3;have s4:=Qab Tryz.prog o4;have s5:=Qab Tryz.prog o5;have s6:=Qab Tryz.prog o6;have s7:=Qab Tryz.prog o7;have s8:=Qab Tryz.prog o8;have s9:=Qab Tryz.prog o9;have s10:=Qab Tryz.prog o10;have s11:=Qab Tryz.prog o11;have s12:=Qab Tryz.prog o12;clear o1 o2 o3 o4 o5 o6 o7 o8 o9 o10 o11 o12;obtain⟨b6,hbx⟩:∃bx,wr.heap.size=bx:=⟨_,rfl⟩
     obtain⟨V6,hV⟩:∃V,wr.alloc (.cells #[s.a.x,s.a.y,s.a.z,s.l.x,s.l.y,s.l.z,s.u.x,s.u.y,s.u.z,s.s.x,s.s.y,s.s.z] 82)=V:=⟨_,rfl⟩;have hBV:Below wr.heap.size wr V6:=by rw[←hV];exact(Below.refl _ _).alloc (Nat.le_refl _) _
     have HS6:Hid (SB V6 b6 82 s.box):=Hi (by rw[←hV,←hbx];exact SB.new wr _ _);have hRX:R<b6:=by rw[←hbx];exact Nat.lt_of_lt_of_le hRB (HJL.out pre' wr HJ'.out).2.2.1
     have HV6:=Hi hV;have HB6:=Hi hbx;have HJN:=Hi (HJB.out pre' wr V6 HJ'.out hBV);have HSBV:=Hi hBV;have HXE:=Hi hx;have cb:=(HJL.out pre' V6 HJN.out).2.2.2.2.cell 0;simp only[List.getElem?_toArray,List.getElem?_cons_zero] at cb;rw[←hV] at cb;clear he h1 h2 h3 h4 hx hbx hV hBV;have HJ6:=HJN;have hR6:=hRX;have HSE:=HXE;have HS46:=Hi (HS4'.out.below HSBV.out HS4'.out.lt);have q2:((q:Int)<(k:Int)):=by omega
     clear HJN hRX HXE HSBV
     gi_wp2
     rw[HV6.out];simp only[HB6.out];clear s1 s2 s3 s4 s5 s6 s7 s8 s9 s10 s11 s12;clear t0 t1 t2 t3 t4 t5 t6 t7 t8 t9 t10 t11 cb
     gi_loopw [29] (fun iv wr=>∃(p:Nat) (pr2:List Thr),p≤q∧iv=.int .i64 p∧(∀x,x∈ pre'→x∈ pr2)∧(∀i,i<p→(i,q,k)∈ pr2)∧J pr2 wr∧SB wr b4 82 t.box∧SB wr b6 82 s.box) (fun iv _=>q - (intOf iv).toNat)
     case atStart=>exact⟨0,pre',Nat.zero_le _,rfl,fun x hx=>hx,fun i hi=>by omega,HJ6.out,HS46.out,HS6.out⟩
     case round=>
      obtain⟨p,pr2,hp,rfl,hsub2,hin2,hj2,hs42,hs62⟩:=hrel;have HJ2:=Hi hj2;have HSUB2:=Hi hsub2;have HIN2:=Hi hin2;have HS42:=Hi hs42;have HS62:=Hi hs62;clear hj2 hsub2 hin2 hs42 hs62 HJ6 HS46 HS6;by_cases hpq:p<q
      ·
       have he:=(HJL.out pr2 wr HJ2.out).2.2.2;obtain⟨t0,t1,t2,t3,t4,t5,t6,t7,t8,t9,t10,t11⟩:=he.1.stoneAt HLE.out (i:=p) (by omega);obtain⟨h1,h2,h3,h4⟩:=he.1.okAt HLE.out (i:=p) (by omega);obtain⟨r,hx⟩:∃x,stn ts p=x:=⟨_,rfl⟩;rw[hx] at t0 t1 t2 t3 t4 t5 t6 t7 t8 t9 t10 t11 h1 h2 h3 h4;obtain⟨o1,o2,o3⟩:=h1.1.one;obtain⟨o4,o5,o6⟩:=h2.1.one;obtain⟨o7,o8,o9⟩:=h3.1.one;obtain⟨o10,o11,o12⟩:=h4.1.one;have s1:=Qab Tryz.prog o1;have s2:=Qab Tryz.prog o2;have s3:=Qab Tryz.prog o3;have s4:=Qab Tryz.prog o4;have s5:=Qab Tryz.prog o5;have s6:=Qab Tryz.prog o6;have s7:=Qab Tryz.prog o7;have s8:=Qab Tryz.prog o8;have s9:=Qab Tryz.prog o9;have s10:=Qab Tryz.prog o10;have s11:=Qab Tryz.prog o11;have s12:=Qab Tryz.prog o12;clear o1 o2 o3 o4 o5 o6 o7 o8 o9 o10 o11 o12;obtain⟨b8,hbx⟩:∃bx,wr.heap.size=bx:=⟨_,rfl⟩
       obtain⟨V8,hV⟩:∃V,wr.alloc (.cells #[r.a.x,r.a.y,r.a.z,r.l.x,r.l.y,r.l.z,r.u.x,r.u.y,r.u.z,r.s.x,r.s.y,r.s.z] 82)=V:=⟨_,rfl⟩;have hBV:Below wr.heap.size wr V8:=by rw[←hV];exact(Below.refl _ _).alloc (Nat.le_refl _) _
       have HS8:Hid (SB V8 b8 82 r.box):=Hi (by rw[←hV,←hbx];exact SB.new wr _ _);have hRX:R<b8:=by rw[←hbx];exact Nat.lt_of_lt_of_le hRB (HJL.out pr2 wr HJ2.out).2.2.1
       have HV8:=Hi hV;have HB8:=Hi hbx;have HJN:=Hi (HJB.out pr2 wr V8 HJ2.out hBV);have HSBV:=Hi hBV;have HXE:=Hi hx;have cb:=(HJL.out pr2 V8 HJN.out).2.2.2.2.cell 0;simp only[List.getElem?_toArray,List.getElem?_cons_zero] at cb;rw[←hV] at cb;clear he h1 h2 h3 h4 hx hbx hV hBV;have HJ8:=HJN;have HRE:=HXE;have HS48:=Hi (HS42.out.below HSBV.out HS42.out.lt);have HS68:=Hi (HS62.out.below HSBV.out HS62.out.lt);have q3:((p:Int)<(q:Int)):=by omega
       obtain⟨x0,x1,x2,x3,x4,x5,x6,x7,x8,x9,x10,x11⟩:=S4.at HS48.out;obtain⟨y0,y1,y2,y3,y4,y5,y6,y7,y8,y9,y10,y11⟩:=S4.at HS68.out;rw[←HV8.out] at x0 x1 x2 x3 x4 x5 x6 x7 x8 x9 x10 x11 y0 y1 y2 y3 y4 y5 y6 y7 y8 y9 y10 y11;have hll:=(HJL.out pr2 V8 HJ8.out).2.1;have HOK:Hid (OkT g n ts (p,q,k) V8):=Hi ⟨hpq,hqk,hkn,(HJL.out pr2 V8 HJ8.out).2.2.2.1⟩;have HNC:=Hi (HJL.out pr2 V8 HJ8.out).1;obtain⟨fn,tmps,asg,bdy,hyy,hR⟩:=HY.out pr2 (p,q,k) V8 HJ8.out HOK.out;dsimp only[encT] at hyy;rw[HRE.out,HSE.out,HTE.out] at hyy;unfold S4.cells3 at hyy;rw[←HV8.out] at hyy;have HR:=Hi hR;clear HJN hRX HXE HSBV hR cb
       gi_wp2
       rw[HV8.out];simp only[HB8.out];refine HR.out.mono ?_;rintro e W3 (⟨rfl,hJ3,ho3⟩|⟨rfl,hJx3⟩)
       ·
        have HJ3:=Hi hJ3;have HS43:=Hi (HS48.out.only2 ho3 (by rintro rfl;have:=HNC.out _ HS48.out;cases this) (by omega));have HS63:=Hi (HS68.out.only2 ho3 (by rintro rfl;have:=HNC.out _ HS68.out;cases this) (by omega));clear s1 s2 s3 s4 s5 s6 s7 s8 s9 s10 s11 s12;clear hJ3 ho3 hyy x0 x1 x2 x3 x4 x5 x6 x7 x8 x9 x10 x11 y0 y1 y2 y3 y4 y5 y6 y7 y8 y9 y10 y11 t0 t1 t2 t3 t4 t5 t6 t7 t8 t9 t10 t11
        gi_wp2
        go_roundw
        case rel=>
         refine⟨p+1,pr2++ [(p,q,k)],by omega,by go_num,fun x hx=>List.mem_append_left _ (HSUB2.out x hx),fun i hi=>?_,HJ3.out,HS43.out,HS63.out⟩;rcases Nat.lt_or_ge i p with h1|h1
         · exact List.mem_append_left _ (HIN2.out i h1)
         · rw[show i=p by omega];simp
        case measure=>simp[intOf];omega
       ·
        have HJX:=Hi hJx3;clear s1 s2 s3 s4 s5 s6 s7 s8 s9 s10 s11 s12;clear hJx3 hyy x0 x1 x2 x3 x4 x5 x6 x7 x8 x9 x10 x11 y0 y1 y2 y3 y4 y5 y6 y7 y8 y9 y10 y11 t0 t1 t2 t3 t4 t5 t6 t7 t8 t9 t10 t11
        gi_wp2
        refine bodyPost_ret (results_none rfl _ _ _) rfl ?_;exact⟨⟨_,rfl⟩,.inr ⟨_,trivial,HJX.out⟩⟩
      ·
       have q3:¬((p:Int)<(q:Int)):=by omega
       gi_wp2
       go_roundw
       case rel=>
        refine⟨q+1,pr2,by omega,by go_num,fun x hx=>HSUB2.out x (HSUB.out x hx),fun i j hi hj=>?_,HJ2.out,HS42.out⟩;rcases Nat.lt_or_ge j q with h1|h1
        · exact HSUB2.out _ (HIN.out i j hi h1)
        · rw[show j=q by omega];exact HIN2.out i (by omega)
       case measure=>simp[intOf];omega
    ·
     have q2:¬((q:Int)<(k:Int)):=by omega
     gi_wp2
     go_roundw
     case rel=>
      refine⟨k+1,pre',by omega,by go_num,fun i j k' hi hj hk'=>?_,HJ'.out⟩;rcases Nat.lt_or_ge k' k with h1|h1
      · exact HSUB.out _ (HPRE.out i j k' hi hj h1)
      · rw[show k'=k by omega];exact HIN.out i j hi (by omega)
     case measure=>simp[intOf];omega
  ·
   obtain rfl:k=n:=by omega
   gi_wp2
   go_end0;exact⟨⟨_,rfl⟩,.inl ⟨pre,fun i j k' hi hj hk'=>HPRE.out i j k' hi hj hk',HJ.out⟩⟩
end Go.Proofs.YtldjeecnapgakaaGreatDoor
