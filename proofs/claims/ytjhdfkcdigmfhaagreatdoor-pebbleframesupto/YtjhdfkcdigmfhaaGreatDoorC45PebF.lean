/- package pebble: fetch. -/
import Derived.Test.YtjhdfkcdigmfhaaGreatDoorC44PebR
namespace Go.Proofs.YtjhdfkcdigmfhaaGreatDoor.Peb
open Go.RowKit Go.MapKept
set_option linter.unusedVariables false
set_option linter.unusedSimpArgs false
theorem Qm2{B0 B n g gl gp gm:Nat}(hn:n≤10)(k:Nat):RelAt B0 B n g gl gp gm k:=by
 induction k using Nat.strongRecOn with
 |ind k ih=>exact Qnz hn (Qn1 hn ih)
theorem Qg2(p k:Nat):putP (putP (fun _=>false) p true) k true=pair p k:=by
 funext r
 by_cases h1:r=k
 · subst h1;simp[putP,pair]
 ·
  by_cases h2:r=p
  · subst h2;simp[putP,pair]
  · simp[putP,pair,h1,h2]
theorem Qm3(p k:Nat):pair p k=pair k p:=by
 funext r
 exact Bool.or_comm _ _
theorem Board.bd{n:Nat}{loose:Nat→Nat}{paid:Nat→List Nat}{T:List Edge}(h:Board n loose paid T):Bd n loose paid:=⟨fun p hp=>Nat.le_of_eq (h.1 p hp),h.2.2⟩
def FetchSays(n p k:Nat)(T:List Edge)(loose:Nat→Nat)(paid:Nat→List Nat)(b:Bool)(loose':Nat→Nat)(paid':Nat→List Nat):Prop:=
 (b=true∧Board n loose' paid' T∧loose' p=loose p+1∧loose' k=loose k)∨(b=false∧loose'=loose∧paid'=paid∧∃s,Shut loose paid (pair p k) s∧∀q∈ paid p,s q=true)
theorem Qm4{n p k:Nat}{T:List Edge}{loose loose':Nat→Nat}{paid paid':Nat→List Nat}(h:Board n loose paid T)(hpk:p≠k)(g:Gave n p (putP (pair p k) p false) loose paid loose' paid')(hl:loose' p=loose p):
 FetchSays n p k T loose paid true (putP loose' p (loose' p+1)) paid':=by
 refine Or.inl ⟨rfl,h.fetch g,by rw[Qab,hl],?_⟩
 rw[Qaa _ _ (Ne.symm hpk)]
 refine(g.1 k ?_).1
 rw[Qaa _ _ (Ne.symm hpk)]
 simp[pair]
set_option maxRecDepth 100000 in
set_option maxHeartbeats 4000000 in
theorem Qg3{B0 B n g gl gp gm:Nat}(hn:n≤10)(w:World)(hv:Nat→Value)(loose:Nat→Nat)(paid:Nat→List Nat)(seen:PSet)(T:List Edge)(p k:Nat)
 (h:PB w B0 B n g gl gp gm hv loose paid seen) (hB:Board n loose paid T) (hp:p<n) (hk:k<n) (hpk:p≠k):
 Calls Tryz.prog 212 #[brdV g,nv p,nv k] w fun e w'=>∃b hv' loose' paid' seen',e=.returned (.bool b)∧PB w' B0 B n g gl gp gm hv' loose' paid' seen'∧Kp B0 w w'∧FetchSays n p k T loose paid b loose' paid':=by
 obtain⟨es,c,hm,hi⟩:=h.map
 have HBO:=Hi hB
 have HPK:=Hi hpk
 have c2:w.cell? ⟨g,2,none⟩=some (.map (some gm)):=h.brd.cell 2
 have hclr:(Builtin.clear_ #[271] 0 #[.map (some gm)]).run Tryz.prog w=_:=Qnl hm 0
 obtain⟨U,hU⟩:∃U,({ w with heap:=w.heap.setIfInBounds gm (.map #[] c) }:World)=U:=⟨_,rfl⟩
 have hpu:PB U B0 B n g gl gp gm hv loose paid (fun _=>false):=by rw[←hU];exact h.setMap ISet.empty
 have hKU:Kp B0 w U:=by rw[←hU];exact(Kp.refl _ _).map hm h.lo.2.2.2 _
 have hmU:U.drew.heap[gm]?=some (.map #[] c):=by rw[←hU];exact map_same (by have:=h.hi;omega)
 rw[hU] at hclr
 have hgm:B0≤gm:=h.lo.2.2.2
 have hpud:=hpu.drew
 have hKUd:=hKU.drew
 obtain⟨D,hD⟩:∃D,U.drew=D:=⟨_,rfl⟩
 rw[hD] at hmU hpud hKUd
 have e1:(Instr.mapEntry 271 (.map (some gm)) (.int .i64 (p:Int))).run Tryz.prog D=_:=Qcr hmU ISet.empty p rfl
 obtain⟨Wp,hWp⟩:∃Wp,({ D with heap:=D.heap.setIfInBounds gm (.map ((#[]:Array MapEntry).push { key:=nv p,val:=.agg #[],born:=c }) (c+1)) }:World)=Wp:=⟨_,rfl⟩
 have pWp:PB Wp B0 B n g gl gp gm hv loose paid (putP (fun _=>false) p true):=by rw[←hWp];exact hpud.setMap (ISet.empty.push p c)
 have kWp:Kp B0 w Wp:=by rw[←hWp];exact hKUd.map hmU hgm _
 have mWp:Wp.heap[gm]?=some (.map ((#[]:Array MapEntry).push { key:=nv p,val:=.agg #[],born:=c }) (c+1)):=by rw[←hWp];exact map_same (by have:=hpud.hi;omega)
 rw[hWp] at e1
 have e2:(Instr.mapEntry 271 (.map (some gm)) (.int .i64 (k:Int))).run Tryz.prog Wp=_:=Qcr mWp (ISet.empty.push p c) k (by rw[Qaa _ _ (Ne.symm hpk)])
 obtain⟨Wpk,hWpk⟩:∃Wpk,({ Wp with heap:=Wp.heap.setIfInBounds gm (.map (((#[]:Array MapEntry).push { key:=nv p,val:=.agg #[],born:=c }).push { key:=nv k,val:=.agg #[],born:=c+1 }) (c+1+1)) }:World)=Wpk:=⟨_,rfl⟩
 have pWpk:PB Wpk B0 B n g gl gp gm hv loose paid (pair p k):=by rw[←hWpk,←Qg2];exact pWp.setMap ((ISet.empty.push p c).push k (c+1))
 have kWpk:Kp B0 w Wpk:=by rw[←hWpk];exact kWp.map mWp hgm _
 have mWpk:Wpk.heap[gm]?=some (.map (((#[]:Array MapEntry).push { key:=nv p,val:=.agg #[],born:=c }).push { key:=nv k,val:=.agg #[],born:=c+1 }) (c+1+1)):=by rw[←hWpk];exact map_same (by have:=pWp.hi;omega)
 rw[hWpk] at e2
 have e3:(Instr.mapEntry 271 (.map (some gm)) (.int .i64 (k:Int))).run Tryz.prog D=_:=Qcr hmU ISet.empty k rfl
 obtain⟨Wk,hWk⟩:∃Wk,({ D with heap:=D.heap.setIfInBounds gm (.map ((#[]:Array MapEntry).push { key:=nv k,val:=.agg #[],born:=c }) (c+1)) }:World)=Wk:=⟨_,rfl⟩
 have pWk:PB Wk B0 B n g gl gp gm hv loose paid (putP (fun _=>false) k true):=by rw[←hWk];exact hpud.setMap (ISet.empty.push k c)
 have kWk:Kp B0 w Wk:=by rw[←hWk];exact hKUd.map hmU hgm _
 have mWk:Wk.heap[gm]?=some (.map ((#[]:Array MapEntry).push { key:=nv k,val:=.agg #[],born:=c }) (c+1)):=by rw[←hWk];exact map_same (by have:=hpud.hi;omega)
 rw[hWk] at e3
 have e4:(Instr.mapEntry 271 (.map (some gm)) (.int .i64 (p:Int))).run Tryz.prog Wk=_:=Qcr mWk (ISet.empty.push k c) p (by rw[Qaa _ _ hpk])
 obtain⟨Wkp,hWkp⟩:∃Wkp,({ Wk with heap:=Wk.heap.setIfInBounds gm (.map (((#[]:Array MapEntry).push { key:=nv k,val:=.agg #[],born:=c }).push { key:=nv p,val:=.agg #[],born:=c+1 }) (c+1+1)) }:World)=Wkp:=⟨_,rfl⟩
 have pWkp:PB Wkp B0 B n g gl gp gm hv loose paid (pair p k):=by rw[←hWkp,Qm3,←Qg2];exact pWk.setMap ((ISet.empty.push k c).push p (c+1))
 have kWkp:Kp B0 w Wkp:=by rw[←hWkp];exact kWk.map mWk hgm _
 have mWkp:Wkp.heap[gm]?=some (.map (((#[]:Array MapEntry).push { key:=nv k,val:=.agg #[],born:=c }).push { key:=nv p,val:=.agg #[],born:=c+1 }) (c+1+1)):=by rw[←hWkp];exact map_same (by have:=pWk.hi;omega)
 rw[hWkp] at e4
 obtain⟨d,hd⟩:∃d,d=c+1:=⟨_,rfl⟩
 have f1:(Instr.entryStore 271 (.map (some gm)) (.int .i64 (c:Int)) (.agg #[])).run Tryz.prog Wp=.ok () Wp:=Qbi mWp (ISet.empty.push p c) c ⟨_,by simp;rfl,rfl⟩
 have f2:(Instr.entryStore 271 (.map (some gm)) (.int .i64 (c:Int)) (.agg #[])).run Tryz.prog Wpk=.ok () Wpk:=Qbi mWpk ((ISet.empty.push p c).push k (c+1)) c ⟨{ key:=nv p,val:=.agg #[],born:=c },by simp,rfl⟩
 have f3:(Instr.entryStore 271 (.map (some gm)) (.int .i64 (d:Int)) (.agg #[])).run Tryz.prog Wpk=.ok () Wpk:=Qbi mWpk ((ISet.empty.push p c).push k (c+1)) d ⟨{ key:=nv k,val:=.agg #[],born:=c+1 },by simp,hd.symm⟩
 have f4:(Instr.entryStore 271 (.map (some gm)) (.int .i64 (c:Int)) (.agg #[])).run Tryz.prog Wk=.ok () Wk:=Qbi mWk (ISet.empty.push k c) c ⟨_,by simp;rfl,rfl⟩
 have f5:(Instr.entryStore 271 (.map (some gm)) (.int .i64 (c:Int)) (.agg #[])).run Tryz.prog Wkp=.ok () Wkp:=Qbi mWkp ((ISet.empty.push k c).push p (c+1)) c ⟨{ key:=nv k,val:=.agg #[],born:=c },by simp,rfl⟩
 have f6:(Instr.entryStore 271 (.map (some gm)) (.int .i64 (d:Int)) (.agg #[])).run Tryz.prog Wkp=.ok () Wkp:=Qbi mWkp ((ISet.empty.push k c).push p (c+1)) d ⟨{ key:=nv p,val:=.agg #[],born:=c+1 },by simp,hd.symm⟩
 rw[←hd] at e2 e4
 have cD:U.cell? ⟨g,2,none⟩=some (.map (some gm)):=hpu.brd.cell 2
 have cWp:Wp.cell? ⟨g,2,none⟩=some (.map (some gm)):=pWp.brd.cell 2
 have cWk:Wk.cell? ⟨g,2,none⟩=some (.map (some gm)):=pWk.brd.cell 2
 have cWpk:Wpk.cell? ⟨g,2,none⟩=some (.map (some gm)):=pWpk.brd.cell 2
 have cWkp:Wkp.cell? ⟨g,2,none⟩=some (.map (some gm)):=pWkp.brd.cell 2
 rw[←hD] at e1 e3
 have HP1:=Hi pWpk
 have HP2:=Hi pWkp
 have HK1:=Hi kWpk
 have HK2:=Hi kWkp
 clear h hm hi hpu hKU hmU hU hgm hpud hKUd hD hWp pWp kWp mWp hWpk pWpk kWpk mWpk hWk pWk kWk mWk hWkp pWkp kWkp mWkp hd hB hpk
 go_enter Tryz.func212,Tryz.ntmps212
 go_wp2_with fail
 go_cut [6] (fun s6 wc=>s6=.bool false∧PB wc B0 B n g gl gp gm hv loose paid (pair p k)∧Kp B0 w wc)
 case first=>
  go_region_held3 (fun v=>v.cell? ⟨g,2,none⟩=some (.map (some gm))) ((first|(simp [*];done)|go_keep)) (first|fail)
  all_goals
   go_wp2_with fail
   go_meet
   case rel=>first|exact⟨rfl,HP1.out,HK1.out⟩|exact⟨rfl,HP2.out,HK2.out⟩
 case rest=>
  obtain⟨rfl,hpb,hkp⟩:=hcut
  obtain⟨wx,rfl⟩:∃wx,wx=wc:=⟨wc,rfl⟩
  have HC:=Hi (Qm2 (B0:=B0) (B:=B) (g:=g) (gl:=gl) (gp:=gp) (gm:=gm) hn (unseen n (pair p k)) wx hv loose paid (pair p k) p hpb HBO.out.bd hp (by simp[pair]) (Nat.le_refl _))
  have HKX:=Hi hkp
  clear hpb hkp c2 hclr e1 e2 e3 e4 f1 f2 f3 f4 f5 f6 cD cWp cWk cWpk cWkp
  go_wp2_with fail
  go_fit HC.out
  rintro e w1 ⟨b,hv1,loose1,paid1,seen1,rfl,hpb1,hkp1,hsay⟩
  rcases hsay with ⟨rfl,hg,hl⟩|⟨rfl,rfl,rfl,rfl,hsh,hall⟩
  ·
   have hlp:loose1 p≤2:=by have:=HBO.out.1 p hp;omega
   have c0:w1.cell? ⟨g,0,none⟩=some (.slice (some ⟨gl,0,none⟩) n n):=hpb1.brd.cell 0
   have l0:w1.cell? ⟨gl,p,none⟩=some (.int .i64 (loose1 p:Int)):=(hpb1.ls.cell p).trans (Qag _ hp)
   have fz:w1.frozen? ⟨gl,p,none⟩=false:=hpb1.ls.free p
   have t1:IntKind.i64.wrap ((loose1 p:Int)+1)=((loose1 p+1:Nat):Int):=by
    rw[show ((loose1 p:Int)+1)=((loose1 p+1:Nat):Int) by omega]
    simp[IntKind.wrap,IntKind.signed,IntKind.bits]
    omega
   obtain⟨x,hx⟩:∃x,loose1 p+1=x:=⟨_,rfl⟩
   rw[hx] at t1
   have HPX:Hid (PB (w1.setCell ⟨gl,p,none⟩ (nv x)) B0 B n g gl gp gm hv1 (putP loose1 p (loose1 p+1)) paid1 seen1):=Hi (by rw[hx];exact hpb1.setLoose p x)
   have HKY:Hid (Kp B0 w (w1.setCell ⟨gl,p,none⟩ (nv x))):=Hi ((HKX.out.trans hkp1).setCell hpb1.ls (by decide) hpb1.lo.2.1 _ _)
   have HFS:=Hi (Qm4 HBO.out HPK.out hg hl)
   clear hpb1 hkp1 hg hl hx hlp
   go_wp2
   go_ret
   first
    |exact⟨true,hv1,_,paid1,seen1,rfl,HPX.out,HKY.out,HFS.out⟩
    |exact Or.inr ⟨rfl,hv1,_,paid1,seen1,HPX.out,HKY.out,HFS.out⟩
  ·
   have HPX:=Hi hpb1
   have HKY:=Hi (HKX.out.trans hkp1)
   have HSH:=Hi hsh
   have HALL:=Hi hall
   clear hpb1 hkp1 hsh hall
   go_wp2
   go_ret
   first
    |exact⟨false,hv1,loose1,paid1,seen1,rfl,HPX.out,HKY.out,Or.inr ⟨rfl,rfl,rfl,seen1,HSH.out,HALL.out⟩⟩
    |exact Or.inl ⟨rfl,hv1,loose1,paid1,seen1,HPX.out,HKY.out,Or.inr ⟨rfl,rfl,rfl,seen1,HSH.out,HALL.out⟩⟩
end Go.Proofs.YtjhdfkcdigmfhaaGreatDoor.Peb
