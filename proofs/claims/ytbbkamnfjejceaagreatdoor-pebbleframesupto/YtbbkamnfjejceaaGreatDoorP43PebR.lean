/- package pebble: a point's edge is paid by another. -/
import Derived.Test.YtbbkamnfjejceaaGreatDoorP42PebM
namespace Go.Proofs.YtbbkamnfjejceaaGreatDoor.Peb
open Go.RowKit Go.MapKept
set_option linter.unusedVariables false
set_option linter.unusedSimpArgs false
def Bd(n:Nat)(loose:Nat→Nat)(paid:Nat→List Nat):Prop:=(∀p,p<n→loose p+(paid p).length≤2)∧∀p,p<n→∀q∈ paid p,q<n
def unseen(n:Nat)(s:PSet):Nat:=sumTo n (fun p=>(!s p).toNat)
theorem Qho{n:Nat}{s:PSet}{q:Nat}(hq:q<n)(hs:s q=false):unseen n (putP s q true)+1=unseen n s:=by
 have:=Qav n (fun p=>(!s p).toNat) (fun p=>(!putP s q true p).toNat) q hq (fun i _ hne=>by simp only[Qaa _ _ hne]);simp only[Qab,hs] at this;unfold unseen
 simpa using this
theorem Qns{n:Nat}{s s':PSet}(h:∀r,s r=true→s' r=true):unseen n s'≤unseen n s:=
 Qd7 n _ _ (fun i _=>by
  cases hs:s i with
  |false=>exact Bool.toNat_le _
  |true=>rw[h i hs];exact Nat.le_refl _)
def SpareSays(n q:Nat)(seen:PSet)(hv:Nat→Value)(loose:Nat→Nat)(paid:Nat→List Nat)(b:Bool)(hv':Nat→Value)(loose':Nat→Nat)(paid':Nat→List Nat)(seen':PSet):Prop:=
 (b=true∧seen q=false∧Gave n q seen loose paid loose' paid')∨(b=false∧loose'=loose∧paid'=paid∧hv'=hv∧Shut loose paid seen seen'∧seen' q=true)
def RelSays(n p:Nat)(seen:PSet)(hv:Nat→Value)(loose:Nat→Nat)(paid:Nat→List Nat)(b:Bool)(hv':Nat→Value)(loose':Nat→Nat)(paid':Nat→List Nat)(seen':PSet):Prop:=
 (b=true∧Gave n p (putP seen p false) loose paid loose' paid'∧loose' p=loose p)∨(b=false∧loose'=loose∧paid'=paid∧hv'=hv∧Shut loose paid seen seen'∧∀q∈ paid p,seen' q=true)
theorem RelSays.spare{n q:Nat}{seen seen':PSet}{hv hv':Nat→Value}{loose loose':Nat→Nat}{paid paid':Nat→List Nat}{b:Bool}(h:RelSays n q (putP seen q true) hv loose paid b hv' loose' paid' seen')(hs:seen q=false)(hl:loose q=0):SpareSays n q seen hv loose paid b hv' loose' paid' seen':=by
 rcases h with ⟨h1,h2,h3⟩|⟨h1,h2,h3,h4,h5,h6⟩
 ·
  refine Or.inl ⟨h1,hs,h2.less (fun r hr=>?_)⟩;have:r≠q:=fun e=>by rw[e,hs] at hr;cases hr
  rw[Qaa _ _ this,Qaa _ _ this];exact hr
 · obtain⟨a,c⟩:=h5.spare hl h6
   exact Or.inr ⟨h1,h2,h3,h4,a,c⟩
abbrev brdV(g:Nat):Value:=.pointer (some ⟨g,0,none⟩)
def SpareAt(B0 B n g gl gp gm k:Nat):Prop:=∀(w:World) (hv:Nat→Value) (loose:Nat→Nat) (paid:Nat→List Nat) (seen:PSet) (q:Nat),PB w B0 B n g gl gp gm hv loose paid seen→Bd n loose paid→q<n→unseen n seen≤k→
 Calls Tryz.prog 217 #[brdV g,nv q] w fun e w'=>∃b hv' loose' paid' seen',e=.returned (.bool b)∧PB w' B0 B n g gl gp gm hv' loose' paid' seen'∧Kp B0 w w'∧SpareSays n q seen hv loose paid b hv' loose' paid' seen'
def RelAt(B0 B n g gl gp gm k:Nat):Prop:=∀(w:World) (hv:Nat→Value) (loose:Nat→Nat) (paid:Nat→List Nat) (seen:PSet) (p:Nat),PB w B0 B n g gl gp gm hv loose paid seen→Bd n loose paid→p<n→seen p=true→unseen n seen≤k→
 Calls Tryz.prog 181 #[brdV g,nv p] w fun e w'=>∃b hv' loose' paid' seen',e=.returned (.bool b)∧PB w' B0 B n g gl gp gm hv' loose' paid' seen'∧Kp B0 w w'∧RelSays n p seen hv loose paid b hv' loose' paid' seen'
set_option maxRecDepth 100000 in
set_option maxHeartbeats 2000000 in
theorem Qnt{B0 B n g gl gp gm k:Nat}(hn:n≤10)(hrel:∀j,j<k→RelAt B0 B n g gl gp gm j):SpareAt B0 B n g gl gp gm k:=by
 intro w hv loose paid seen q h hbd hq hk;have HREL:=Hi hrel;have HPB:=Hi h;have HBD:=Hi hbd;have HK:=Hi hk;obtain⟨es,c,hm,hi⟩:=h.map;have hlook:(Instr.lookup 194 (.map (some gm)) (.int .i64 (q:Int)) true).run Tryz.prog w=_:=Qnb hm hi q;have c2:w.cell? ⟨g,2,none⟩=some (.map (some gm)):=h.brd.cell 2;obtain⟨V,hV⟩:∃V,w.alloc (.cells #[] 176)=V:=⟨_,rfl⟩;have hpv:PB V B0 B n g gl gp gm hv loose paid seen:=by rw[←hV];exact h.alloc _
 have hbw:B0≤w.heap.size:=by have:=h.hi;have:=h.lo;omega
 have HKV:Hid (Kp B0 w V):=Hi (by rw[←hV];exact(Kp.refl _ _).alloc hbw _);have HPV:=Hi hpv;cases hs:seen q with
 |true=>
  rw[hs] at hlook;have HS:=Hi hs;have HV:=Hi hV;clear h hbd hk hm hi hpv hbw hs hV hrel;go_enter Tryz.func217,Tryz.ntmps217;go_wp2;go_ret;exact⟨false,hv,loose,paid,seen,rfl,by rw[HV.out];exact HPV.out,by rw[HV.out];exact HKV.out,Or.inr ⟨rfl,rfl,rfl,rfl,Shut.refl _ _ _,HS.out⟩⟩
 |false=>
  rw[hs] at hlook;have hmV:V.heap[gm]?=some (.map es c):=by rw[←hV];exact(Qb1 w _ (by have:=h.hi;omega)).trans hm
  have hput:(Instr.mapUpdate 194 (.map (some gm)) (.int .i64 (q:Int)) (.agg #[])).run Tryz.prog V=_:=Qnc hmV hi q hs;obtain⟨U,hU⟩:∃U,({ V with heap:=V.heap.setIfInBounds gm (.map (es.push { key:=nv q,val:=.agg #[],born:=c }) (c+1)) }:World)=U:=⟨_,rfl⟩;have hpu:PB U B0 B n g gl gp gm hv loose paid (putP seen q true):=by rw[←hU];exact hpv.setMap (hi.push q c)
  have HKU:Hid (Kp B0 w U):=Hi (by rw[←hU];exact HKV.out.map hmV (by have:=h.lo;omega) _);rw[hU] at hput;have HPU:=Hi hpu;have c2V:V.cell? ⟨g,2,none⟩=some (.map (some gm)):=hpv.brd.cell 2;have c0U:U.cell? ⟨g,0,none⟩=some (.slice (some ⟨gl,0,none⟩) n n):=hpu.brd.cell 0;have l0U:U.cell? ⟨gl,q,none⟩=some (.int .i64 (loose q:Int)):=(hpu.ls.cell q).trans (Qaf _ hq);have f0U:U.frozen? ⟨gl,q,none⟩=false:=hpu.ls.free q;have hlq:loose q≤2:=by have:=hbd.1 q hq;omega
  have HS:=Hi hs;have HV:=Hi hV;have HU:=Hi hU;rw[←hV] at c2V hput;clear h hbd hk hm hi hpv hbw hs hV hrel hmV hpu hU;by_cases hl:0<loose q
  ·
   have e1:((loose q:Int) > 0):=by omega
   have e2:IntKind.i64.wrap ((loose q:Int) - 1)=((loose q - 1:Nat):Int):=by
    rw[show ((loose q:Int) - 1)=((loose q - 1:Nat):Int) by omega];simp[IntKind.wrap,IntKind.signed,IntKind.bits];omega
   go_enter Tryz.func217,Tryz.ntmps217;go_wp2;go_ret;exact⟨true,hv,putP loose q (loose q - 1),paid,putP seen q true,rfl,HPU.out.setLoose q _,HKU.out.setCell HPU.out.ls (by decide) HPU.out.lo.2.1 _ _,Or.inl ⟨rfl,HS.out,Qm5 HS.out hl HBD.out.2⟩⟩
  ·
   have e1:¬((loose q:Int) > 0):=by omega
   go_enter Tryz.func217,Tryz.ntmps217;have HC:=Hi (HREL.out (k - 1) (by have:=Qho hq HS.out;have:=HK.out;omega) U hv loose paid (putP seen q true) q HPU.out HBD.out hq (Qab _ _ _) (by have:=Qho hq HS.out;have:=HK.out;omega));go_wp2_with fail;go_fit HC.out;rintro e w1 ⟨b,hv1,loose1,paid1,seen1,rfl,hpb1,hkp1,hsay⟩;have HP1:=Hi hpb1;have HK1:=Hi (HKU.out.trans hkp1);have HSA:=Hi hsay;clear hpb1 hkp1 hsay;go_wp2;go_ret;exact⟨b,hv1,loose1,paid1,seen1,rfl,HP1.out,HK1.out,HSA.out.spare HS.out (by omega)⟩
end Go.Proofs.YtbbkamnfjejceaaGreatDoor.Peb
namespace Go.Proofs.YtbbkamnfjejceaaGreatDoor.Peb
open Go.RowKit Go.MapKept
set_option linter.unusedVariables false
set_option linter.unusedSimpArgs false
def layCells(C:Array Value):Nat→List Value→Array Value
 |_,[]=>C
 |o,v :: r=>layCells (C.setIfInBounds o v) (o+1) r
theorem layCells_size:∀(vs:List Value) (o:Nat) (C:Array Value),(layCells C o vs).size=C.size
 | [],_,_=>rfl
 |v :: r,o,C=>by rw[layCells,layCells_size r];simp
theorem layCells_get:∀(vs:List Value) (o:Nat) (C:Array Value) (i:Nat),o+vs.length≤C.size→(layCells C o vs)[i]?=if o≤i∧i<o+vs.length then vs[i - o]? else C[i]?
 | [],o,C,i,_=>by rw[if_neg (by simp only[List.length_nil];omega)];rfl
 |v :: r,o,C,i,h=>by
  simp only[List.length_cons] at h;rw[layCells,layCells_get r (o+1) _ i (by simp;omega),Array.getElem?_setIfInBounds];by_cases h1:i=o
  ·
   subst h1;rw[if_neg (by omega),if_pos rfl,if_pos (by omega),if_pos (by simp only[List.length_cons];omega)];simp
  ·
   by_cases h2:o+1≤i∧i<o+1+r.length
   · rw[if_pos h2,if_pos (by simp only[List.length_cons];omega),show i - o=(i - (o+1))+1 by omega]
     simp
   · rw[if_neg h2,if_neg (Ne.symm h1),if_neg (by simp only[List.length_cons];omega)]
theorem SB.cells{t:TypeId}{g:Nat}:∀(vs:List Value) (o:Nat) {w:World} {C:Array Value},SB w g t C→SB (w.setCells g o vs) g t (layCells C o vs)
 | [],_,w,_,h=>h
 |v :: r,o,w,C,h=>SB.cells r (o+1) (h.set o v)
theorem Qhl(g:Nat):∀(vs:List Value) (o:Nat) (w:World) (b:Nat),b≠g→(w.setCells g o vs).heap[b]?=w.heap[b]?
 | [],_,_,_,_=>rfl
 |v :: r,o,w,b,h=>(Qhl g r (o+1) (w.setCell ⟨g,o,none⟩ v) b h).trans (Below.heap_setCell _ _ _ _ h)
theorem Qhm(g:Nat):∀(vs:List Value) (o:Nat) (w:World),(w.setCells g o vs).heap.size=w.heap.size
 | [],_,_=>rfl
 |v :: r,o,w=>(Qhm g r (o+1) (w.setCell ⟨g,o,none⟩ v)).trans (by simp[World.setCell])
theorem Kp.cells{B g:Nat}{t:TypeId}(ht:kpT t=false)(hg:B≤g):∀(vs:List Value) (o:Nat) {u w:World} {C:Array Value},Kp B u w→SB w g t C→Kp B u (w.setCells g o vs)
 | [],_,_,_,_,h,_=>h
 |v :: r,o,u,w,C,h,hs=>Kp.cells ht hg r (o+1) (h.setCell hs ht hg o v) (hs.set o v)
theorem PRow.del{w:World}{B b cap i q:Nat}{l:List Nat}(h:PRow w B (.slice (some ⟨b,0,none⟩) l.length cap) l)(hi:l[i]?=some q):
 PRow (w.setCells b i ((l.map nv).drop (i+1))) B (.slice (some ⟨b,0,none⟩) (i+(l.length - (i+1))) cap) (l.eraseIdx i):=by
 have hil:i<l.length:=(List.getElem?_eq_some_iff.1 hi).1;have hlen:=Qea _ _ _ hi;rcases h.2 with ⟨h1,_⟩|⟨g,c,cur,hv,hB,hg,hnc,hcm,hcs,htake⟩
 · cases h1
 ·
  injection hv with e1 e2 e3
  injection e1 with e1
  injection e1 with e1 _ _
  subst e1;subst e3;rw[Nat.mul_one] at hcs htake;refine⟨by simp,.inr ⟨b,cap,_,by rw[show i+(l.length - (i+1))=(l.eraseIdx i).length by omega],hB,SB.cells (t:=3) _ i hg,by omega,hcm,by rw[layCells_size,hcs,Nat.mul_one],?_⟩⟩;have hxl:((l.map nv).drop (i+1)).length=l.length - (i+1):=by simp
  rw[Nat.mul_one];apply List.ext_getElem?;intro k;by_cases hk:k<(l.eraseIdx i).length
  ·
   rw[List.getElem?_take_of_lt hk,Array.getElem?_toList,layCells_get _ _ _ _ (by omega),hxl,List.getElem?_map,List.getElem?_eraseIdx];by_cases h1:k<i
   · rw[if_neg (by omega),if_pos h1,←List.getElem?_map,←htake,List.getElem?_take_of_lt (by omega),Array.getElem?_toList]
   ·
    rw[if_pos (by omega),if_neg h1,List.getElem?_drop,List.getElem?_map]
    congr 2
    omega
  · rw[List.getElem?_eq_none (by rw[List.length_take];omega),List.getElem?_eq_none (by rw[List.length_map];omega)]
theorem step_app{P:Program}{t:TypeId}{ops:Array Oper}{o:Oper}{a:Act}{w:World}{K:Act→World→Prop}{Q:Exit→Act→World→Prop}{E:Prop}
 (hg:o.guard=none) (s x:Operand) (hop:o.op=Op.call { callee:=Callee.builtin Builtin.append,args:=#[s,x],argTypes:=#[t,t] })
 {vs vx v:Value} {w':World} (hs:a.eval s=vs) (hx:a.eval x=vx) (hrun:(Builtin.append_ #[t,t] o.type #[vs,vx]).run P w=.ok v w') (hK:K (a.put o.dst v) w'):
 if Region.wanted o (yielded ops a.tmps)=true then Oper.wp P o a w K Q else E:=by
 have hw:Region.wanted o (yielded ops a.tmps)=true:=by simp[Region.wanted,hg]
 rw[if_pos hw];unfold Oper.wp;simp[execOp,hop,resolve,invoke,builtin,hs,hx,hrun,Result.andThen];exact hK
set_option maxRecDepth 100000 in
set_option maxHeartbeats 4000000 in
theorem Qnr{B0 B n g gl gp gm k:Nat}(hn:n≤10)(hsp:SpareAt B0 B n g gl gp gm k):RelAt B0 B n g gl gp gm k:=by
 intro w hv loose paid seen p h hbd hp hsee hk;have HSP:=Hi hsp;have HPB:=Hi h;have HBD:=Hi hbd;have HK:=Hi hk;have HSEE:=Hi hsee;have c1:w.cell? ⟨g,1,none⟩=some (.slice (some ⟨gp,0,none⟩) n n):=h.brd.cell 1;have d1:w.cell? ⟨gp,p,none⟩=some (hv p):=(h.hd.cell p).trans (Qaf _ hp);rcases(h.rows p hp).at with ⟨hnil,hl0⟩|⟨b,cap,hvp,hBb,hbs,hlc,hcm,hC,hcell⟩
 ·
  rw[hnil] at d1;have HL0:=Hi hl0;clear h hbd hk hsee hsp hnil hl0;go_enter Tryz.func181,Tryz.ntmps181;go_wp2_with fail;go_loopw [15] (fun iv wr=>iv=.int .i64 0∧wr=w) (fun iv _=>1 - (intOf iv).toNat)
  case atStart=>exact⟨rfl,rfl⟩
  case round=>
   obtain⟨rfl,rfl⟩:=hrel;go_wp2;go_ret;exact⟨false,hv,loose,paid,seen,rfl,HPB.out,Kp.refl _ _,Or.inr ⟨rfl,rfl,rfl,rfl,Shut.refl _ _ _,by rw[HL0.out];simp⟩⟩
 ·
  have hl2:(paid p).length≤2:=by have:=hbd.1 p hp;omega
  obtain⟨L,hL⟩:∃L,(paid p).length=L:=⟨_,rfl⟩;rw[hL] at hvp hlc hl2;rw[hvp] at d1;have HVP:=Hi hvp;have HL:=Hi hL;clear h hbd hk hsee hsp hvp hL hC hcell;go_enter Tryz.func181,Tryz.ntmps181;go_wp2_with fail;clear c1 d1;go_loopw [15] (fun iv wr=>∃(i:Nat) (sn:PSet),i≤L∧iv=.int .i64 i∧PB wr B0 B n g gl gp gm hv loose paid sn∧Kp B0 w wr∧Shut loose paid seen sn∧∀j q,j<i→(paid p)[j]?=some q→sn q=true) (fun iv _=>L - (intOf iv).toNat)
  case atStart=>exact⟨0,seen,by omega,rfl,HPB.out,Kp.refl _ _,Shut.refl _ _ _,fun j q hj=>by omega⟩
  case round=>
   obtain⟨i,sn,hi,rfl,hpb,hkp,hshut,hall⟩:=hrel;by_cases hlt:i<L
   ·
    obtain⟨q,hq⟩:∃q,(paid p)[i]?=some q:=⟨(paid p)[i]'(by rw[HL.out];exact hlt),List.getElem?_eq_getElem _⟩;have hqn:q<n:=HBD.out.2 p hp q (List.mem_of_getElem? hq);have q0:wr.cell? ⟨b,i,none⟩=some (.int .i64 (q:Int)):=by
     rcases(hpb.rows p hp).at with ⟨hnil,hl0⟩|⟨b',cap',hvp',_,_,_,_,_,hcell⟩
     · rw[hl0] at hq;cases hq
     ·
      rw[HVP.out] at hvp';injection hvp' with e1 _ _
      injection e1 with e1
      injection e1 with e1 _ _
      rw[e1];exact hcell i q hq
    have hsnp:sn p=true:=hshut.1 p HSEE.out;have HC:=Hi (HSP.out wr hv loose paid sn q hpb HBD.out hqn (Nat.le_trans (Qns hshut.1) HK.out));have HSH:=Hi hshut;have HALL:=Hi hall;have HKW:=Hi hkp;have HQ:=Hi hq;have HSN:=Hi hsnp;have t1:((i:Int)<(L:Int)):=by omega
    clear hpb hkp hshut hall hq hsnp;go_wp2_with fail;go_fit HC.out;rintro e w1 ⟨bb,hv1,loose1,paid1,seen1,rfl,hpb1,hkp1,hsay⟩;clear q0 HC;rcases hsay with ⟨rfl,hsq,hgave⟩|⟨rfl,rfl,rfl,rfl,hsh,hsq⟩
    ·
     have hpq:p≠q:=fun e=>by
      have:=HSN.out;rw[e,hsq] at this;cases this
     obtain⟨u1,u2⟩:=hgave.1 p HSN.out;have hq1:(paid1 p)[i]?=some q:=by rw[u2];exact HQ.out
     have hflip:=hgave.flip hp hqn hpq HSN.out hsq HQ.out;have hb1:∀r,r<n→loose1 r+(paid1 r).length≤2:=fun r hr=>by
      have:=HBD.out.1 r hr;by_cases e:r=q
      ·
       subst e;have:=hgave.2.2.1;omega
      · have:=hgave.2.1 r hr e
        omega
     have hbp:∀r s,r<n→s<n→loose1 r≤2∧(paid1 s).length≤2:=fun r s hr hs=>by
      have:=hb1 r hr;have:=hb1 s hs;omega
     have hL1:(paid1 p).length=L:=by rw[u2];exact HL.out
     have hrp:=hpb1.rows p hp;rcases hrp.at with ⟨hnil,hl0⟩|⟨b1,cap1,hv1p,hBb1,hbs1,hlc1,hcm1,⟨C1,hC1,hC1s⟩,hcell1⟩
     · rw[hl0] at hq1;cases hq1
     rw[hL1] at hv1p hlc1;obtain⟨off,hoff⟩:∃off:Nat,off=0:=⟨0,rfl⟩;obtain⟨j,hj⟩:∃j:Nat,j=i+1:=⟨_,rfl⟩;have c1:w1.cell? ⟨g,1,none⟩=some (.slice (some ⟨gp,0,none⟩) n n):=hpb1.brd.cell 1;have d1:w1.cell? ⟨gp,p,none⟩=some (.slice (some ⟨b1,off,none⟩) L cap1):=by rw[hoff,←hv1p];exact(hpb1.hd.cell p).trans (Qaf _ hp)
     obtain⟨news,hnews⟩:∃news,news=((paid1 p).map nv).drop (i+1):=⟨_,rfl⟩;have hlen:news.length=L - j:=by rw[hnews,hj];simp[hL1]
     obtain⟨A,hA,hsrc⟩:∃A:Addr,(if cap1=j then some (⟨b1,off,none⟩:Addr) else some ⟨b1,off+j,none⟩)=some A∧Hid (∀t u,news[t]?=some u→w1.drew.cell? (A.add t)=some u):=by
      by_cases hh:cap1=j
      ·
       refine⟨⟨b1,off,none⟩,by simp[hh],Hi fun t u hu=>?_⟩;have:=(List.getElem?_eq_some_iff.1 hu).1;omega
      ·
       refine⟨⟨b1,off+j,none⟩,by simp[hh],Hi fun t u hu=>?_⟩;rw[add_at,hoff,Nat.zero_add,hj];rw[hnews,List.getElem?_drop,List.getElem?_map] at hu;obtain⟨r,hr,rfl⟩:=Option.map_eq_some_iff.1 hu;exact hcell1 _ r hr
     have s1:Hid (news.length=(L - j)*1):=Hi (by rw[Nat.mul_one];exact hlen);have s2:Hid (∀u∈ news,u.oneCell'=true):=Hi fun u hu=>by
      rw[hnews] at hu;obtain⟨r,_,rfl⟩:=List.mem_map.1 (List.mem_of_mem_drop hu);rfl
     have s3:Hid (∀t,t<news.length→(w1.drew.cell? ⟨b1,off+i*1+t,none⟩).isSome=true∧w1.drew.frozen? ⟨b1,off+i*1+t,none⟩=false):=Hi fun t ht=>by
      rw[Nat.mul_one,hoff,Nat.zero_add];refine⟨?_,hC1.free _⟩
      show (w1.cell? _).isSome=true
      rw[hC1.cell,Array.getElem?_eq_getElem (by omega)];rfl
     obtain⟨W1,hW1⟩:∃W1,W1=w1.drew.setCells b1 (off+i*1) news:=⟨_,rfl⟩;have hW1k:∀bb,bb≠b1→W1.heap[bb]?=w1.heap[bb]?:=fun bb hne=>by rw[hW1];exact Qhl b1 news _ w1.drew bb hne
     have hgpb:gp≠b1:=by have:=hpb1.hi;omega
     have hrow1:PRow W1 B (.slice (some ⟨b1,off,none⟩) (i+(L - j)) cap1) ((paid1 p).eraseIdx i):=by
      have:=PRow.del (w:=w1.drew) (b:=b1) (cap:=cap1) (l:=paid1 p) (by rw[hv1p,←hL1] at hrp;exact hrp) hq1;rw[hW1,hnews,hoff,hj,Nat.mul_one,Nat.zero_add,←hL1];exact this
     obtain⟨hd1,hdd⟩:∃hd1:Value,hd1=.slice (some ⟨b1,off,none⟩) (i+(L - j)) cap1:=⟨_,rfl⟩;obtain⟨W2,hW2⟩:∃W2,W1.setCell ⟨gp,p,none⟩ (.slice (some ⟨b1,off,none⟩) (i+(L - j)) cap1)=W2:=⟨_,rfl⟩;have hpb2:PB W2 B0 B n g gl gp gm (putP hv1 p hd1) loose1 (putP paid1 p ((paid1 p).eraseIdx i)) seen1:=by
      rw[←hW2,←hdd];refine hpb1.setRow hp (by rw[hW1,Qhm];exact Nat.le_refl _) (fun bb _ hne=>hW1k bb (fun e=>hne (by rw[hv1p,e];rfl))) (by rw[hdd];exact hrow1) (Or.inl (by rw[hdd,hv1p];rfl))
     have hgpW1:SB W1 gp 181 (lsArr n hv1):=hpb1.hd.keep (hW1k gp hgpb);have k1:W1.cell? ⟨gp,p,none⟩=some (.slice (some ⟨b1,off,none⟩) L cap1):=by
      rw[hoff,←hv1p];exact(hgpW1.cell p).trans (Qaf _ hp)
     have k2:W1.frozen? ⟨gp,p,none⟩=false:=hgpW1.free p;have k0:W1.cell? ⟨g,1,none⟩=some (.slice (some ⟨gp,0,none⟩) n n):=(hpb1.brd.keep (hW1k g (by have:=hpb1.hi;omega))).cell 1;have HK2:Hid (Kp B0 w W2):=Hi (by
      rw[←hW2];refine Kp.setCell ?_ hgpW1 (by decide) hpb1.lo.2.2.1 _ _;rw[hW1]
      exact Kp.cells (t:=3) (by decide) (by have:=hpb1.hi;have:=hpb1.lo;omega) news _ (HKW.out.trans hkp1).drew hC1)
     have c1W:W2.cell? ⟨g,1,none⟩=some (.slice (some ⟨gp,0,none⟩) n n):=hpb2.brd.cell 1;have hrq:=hpb2.rows q hqn;rw[Qaa _ _ (Ne.symm hpq),Qaa _ _ (Ne.symm hpq)] at hrq;obtain⟨aq,cq,hvq⟩:∃aq cq,hv1 q=.slice aq (paid1 q).length cq:=by
      rcases hrq.at with ⟨e1,e2⟩|⟨bq,cq,e1,_⟩
      · exact⟨none,0,by rw[e1,e2];rfl⟩
      · exact⟨_,_,e1⟩
     obtain⟨mq,hmq⟩:∃mq,(paid1 q).length=mq:=⟨_,rfl⟩;rw[hmq] at hvq;have d1W:W2.cell? ⟨gp,q,none⟩=some (.slice aq mq cq):=by
      rw[←hvq];have:=(hpb2.hd.cell q).trans (Qaf _ hqn);rw[Qaa _ _ (Ne.symm hpq)] at this;exact this
     obtain⟨X,hX⟩:∃X,(W2.alloc (.cells #[.int .i64 (p:Int)] 3)).drew=X:=⟨_,rfl⟩;have hpbX:PB X B0 B n g gl gp gm (putP hv1 p hd1) loose1 (putP paid1 p ((paid1 p).eraseIdx i)) seen1:=by rw[←hX];exact(hpb2.alloc _).drew
     have hrqX:=hpbX.rows q hqn;rw[Qaa _ _ (Ne.symm hpq),Qaa _ _ (Ne.symm hpq)] at hrqX;have hcX:X.cell? ⟨W2.heap.size,0,none⟩=some (nv p):=by
      rw[←hX];exact(SB.new W2 3 #[nv p]).cell 0
     obtain⟨v3,W3,hrun,hrow3,hgr,hat3⟩:=hrqX.app (by have:=(hbp p q hp hqn).2;omega) hpbX.hi.2.2.2.2 ⟨W2.heap.size,0,none⟩ p hcX 1 181;obtain⟨a3,m3,c3,hv3⟩:∃a3 m3 c3,v3=.slice a3 m3 c3:=by
      rcases hrow3.at with ⟨e1,e2⟩|⟨bq,cq,e1,_⟩
      · exact⟨_,_,_,e1⟩
      · exact⟨_,_,_,e1⟩
     have hpb4:PB (W3.setCell ⟨gp,q,none⟩ v3) B0 B n g gl gp gm (putP (putP hv1 p hd1) q v3) loose1 (putP (putP paid1 p ((paid1 p).eraseIdx i)) q (paid1 q++ [p])) seen1:=by
      refine hpbX.setRow hqn hgr.size (fun bb hb hne=>hgr.block bb hb (fun e=>hne (by rw[Qaa _ _ (Ne.symm hpq),e]))) hrow3 ?_;rw[Qaa _ _ (Ne.symm hpq)];rcases hat3 with e|e
      · exact Or.inl e
      · exact Or.inr (fun bb hb=>by rw[e] at hb;injection hb with hb;omega)
     have hKX:Kp B0 w X:=by
      rw[←hX];exact(HK2.out.alloc (by have:=hpb2.hi;have:=hpb2.lo;omega) _).drew
     have hK3:Kp B0 w W3:=hKX.grown hgr (by have:=hpbX.hi;have:=hpbX.lo;omega) (fun gg hgg=>by
      obtain⟨e1,C,e2⟩:=hrqX.block hgg
      exact⟨by have:=hpbX.hi;have:=hpbX.lo;omega,_,C,e2,by decide⟩)
     have hgpX:SB W3 gp 181 (lsArr n (putP hv1 p hd1)):=hpbX.hd.keep (hgr.block gp (by have:=hpbX.hi;omega) (fun e=>by
      have:=(hrqX.block e.symm).1;have:=hpbX.hi
      omega))
     have HK4:Hid (Kp B0 w (W3.setCell ⟨gp,q,none⟩ v3)):=Hi (hK3.setCell hgpX (by decide) hpbX.lo.2.2.1 _ _);have k3:W3.cell? ⟨gp,q,none⟩=some (.slice aq mq cq):=by
      rw[←hvq];have:=(hgpX.cell q).trans (Qaf _ hqn);rw[Qaa _ _ (Ne.symm hpq)] at this;exact this
     have k4:W3.frozen? ⟨gp,q,none⟩=false:=hgpX.free q;have k5:W3.cell? ⟨g,1,none⟩=some (.slice (some ⟨gp,0,none⟩) n n):=(hpbX.brd.keep (hgr.block g (by have:=hpbX.hi;omega) (fun e=>by
      have:=(hrqX.block e.symm).1;have:=hpbX.hi
      omega))).cell 1
     have c1X:X.cell? ⟨g,1,none⟩=some (.slice (some ⟨gp,0,none⟩) n n):=hpbX.brd.cell 1;have d1X:X.cell? ⟨gp,q,none⟩=some (.slice aq mq cq):=by
      rw[←hvq];have:=(hpbX.hd.cell q).trans (Qaf _ hqn);rw[Qaa _ _ (Ne.symm hpq)] at this;exact this
     rw[hv3] at hpb4 HK4 hrun;rw[hvq] at hrun;have HP4:=Hi hpb4;have HFL:=Hi hflip;obtain⟨i0,hi0,hz0,hz1,hz2⟩:=info_parts infoInt;have HW1:=Hi hW1;have HW2:=Hi hW2;have HX:=Hi hX;have HRUN:=Hi hrun;have t2:IntKind.i64.wrap ((i:Int)+1)=(j:Int):=by
      rw[show ((i:Int)+1)=(j:Int) by omega];simp[IntKind.wrap,IntKind.signed,IntKind.bits];omega
     have hic:i≤cap1:=by omega
     have hjc:j≤cap1:=by omega
     have hjL:j≤L:=by omega
     have hcm1':cap1≤9223372036854775807:=by simpa [maxLen] using hcm1
     have HJ:=Hi hj;have ng:g≠gp:=HPB.out.ne.2.2.2.2.1;have ng':gp≠g:=Ne.symm ng;have s4:Hid (i+(L - j)≤cap1):=Hi (by omega);clear hpb1 hkp1 hsq hgave u1 u2 hq1 hflip hb1 hbp hL1 hrp hv1p hnews hlen hW1 hW1k hgpb hrow1 hdd hW2 hpb2 hgpW1 hrq hvq hmq hX hpbX hrqX hcX hrow3 hgr hat3 hv3 hpb4 hKX hK3 hgpX hrun hoff hC1 hcell1 hz0 hz2 hj hcm1;go_wp2_with fail;go_cut [5,6] (fun s5 s6 wc=>s5=.int .i64 (i:Int)∧s6=.int .i64 (q:Int)∧wc=W2)
     case first=>
      go_region_law (refine step_append_room rfl (.tmp 36) (.tmp 46) 181 rfl 3 i0 1 Tryz.underlying181 hi0 hz1 b1 off i cap1 (by simp[Act.eval,Act.put]) A (L - j) (cap1 - j) news (by simp[Act.eval,Act.put]) s1.out hsrc.out s2.out s4.out s3.out ?_;rw[←HW1.out])
      all_goals
       go_wp2_with fail;go_meet
       case rel=>exact⟨rfl,rfl,HW2.out⟩
     case rest=>
      obtain⟨rfl,rfl,hwc⟩:=hcut;obtain rfl:=hwc.symm;clear c1 d1 k0 k1 k2 hA s1 s2 s3 s4 hsrc hi0 hz1 t2;rw[←HX.out] at c1X d1X;have c1D:(W2.alloc (.cells #[.int .i64 (p:Int)] 3)).cell? ⟨g,1,none⟩=some (.slice (some ⟨gp,0,none⟩) n n):=c1X;have d1D:(W2.alloc (.cells #[.int .i64 (p:Int)] 3)).cell? ⟨gp,q,none⟩=some (.slice aq mq cq):=d1X;clear c1X d1X;have HRX:Hid ((Builtin.append_ #[181,181] 181 #[.slice aq mq cq,.slice (some ⟨W2.heap.size,0,none⟩) 1 1]).run Tryz.prog (W2.alloc (.cells #[.int .i64 (p:Int)] 3)).drew=.ok (.slice a3 m3 c3) W3):=by rw[HX.out];exact HRUN
      go_wp2_with fail;go_cut [6] (fun s6 wd=>s6=.int .i64 (q:Int)∧wd=W3.setCell ⟨gp,q,none⟩ (.slice a3 m3 c3))
      case first=>
       go_region_law (refine step_app rfl (.tmp 60) (.tmp 62) rfl (by simp[Act.eval,Act.put]) (by simp[Act.eval,Act.put]) HRX.out ?_)
       all_goals
        go_wp2_with fail;go_meet
        case rel=>exact⟨rfl,rfl⟩
      case rest=>
       obtain⟨rfl,hwd⟩:=hcut;obtain rfl:=hwd.symm;clear k3 k4 k5 c1D d1D;go_wp2;go_ret;exact Or.inr ⟨rfl,_,loose1,_,seen1,HP4.out,HK4.out,Or.inl ⟨rfl,HFL.out.1.less (fun r hr=>by
        by_cases e:r=p
        · rw[e,Qab] at hr;cases hr
        · rw[Qaa _ _ e] at hr ⊢;exact HSH.out.1 r hr),HFL.out.2⟩⟩
    ·
     have HP1:=Hi hpb1;have HK1:=Hi (HKW.out.trans hkp1);have HS1:=Hi (HSH.out.trans hsh);have HA1:Hid (∀j r,j<i+1→(paid1 p)[j]?=some r→seen1 r=true):=Hi (fun j r hj hr=>by
      rcases Nat.lt_or_ge j i with hji|hji
      · exact hsh.1 r (HALL.out j r hji hr)
      ·
       obtain rfl:j=i:=by omega
       obtain rfl:=Option.some.inj (HQ.out.symm.trans hr)
       exact hsq)
     clear hpb1 hkp1 hsh hsq;go_wp2;go_roundw
     case rel=>exact⟨i+1,seen1,by omega,by go_num,HP1.out,HK1.out,HS1.out,HA1.out⟩
     case measure=>simp[intOf];omega
   ·
    have hk':i=L:=by omega
    subst hk';have HP1:=Hi hpb;have HK1:=Hi hkp;have HS1:=Hi hshut;have HA1:=Hi hall;clear hpb hkp hshut hall;go_wp2;go_ret;exact⟨false,hv,loose,paid,sn,rfl,HP1.out,HK1.out,Or.inr ⟨rfl,rfl,rfl,rfl,HS1.out,fun r hr=>by
     obtain⟨j,hj⟩:=List.mem_iff_getElem?.1 hr
     exact HA1.out j r (by rw[←HL.out];exact(List.getElem?_eq_some_iff.1 hj).1) hj⟩⟩
end Go.Proofs.YtbbkamnfjejceaaGreatDoor.Peb
