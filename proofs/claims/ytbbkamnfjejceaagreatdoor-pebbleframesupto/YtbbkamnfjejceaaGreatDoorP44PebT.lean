/- package pebble: newBoard and take. -/
import Derived.Test.YtbbkamnfjejceaaGreatDoorP43PebR
import Derived.BigRegion
namespace Go.Proofs.YtbbkamnfjejceaaGreatDoor.Peb
open Go.RowKit Go.MapKept
set_option linter.unusedVariables false
set_option linter.unusedSimpArgs false
theorem Qmu{B0 B n g gl gp gm:Nat}(hn:n≤10)(k:Nat):RelAt B0 B n g gl gp gm k:=by
 induction k using Nat.strongRecOn with
 |ind k ih=>exact Qnr hn (Qnt hn ih)
theorem Qg1(p k:Nat):putP (putP (fun _=>false) p true) k true=pair p k:=by
 funext r;by_cases h1:r=k
 · subst h1;simp[putP,pair]
 ·
  by_cases h2:r=p
  · subst h2;simp[putP,pair]
  · simp[putP,pair,h1,h2]
theorem Qmv(p k:Nat):pair p k=pair k p:=by
 funext r;exact Bool.or_comm _ _
theorem Board.bd{n:Nat}{loose:Nat→Nat}{paid:Nat→List Nat}{T:List Edge}(h:Board n loose paid T):Bd n loose paid:=⟨fun p hp=>Nat.le_of_eq (h.1 p hp),h.2.2⟩
def FetchSays(n p k:Nat)(T:List Edge)(loose:Nat→Nat)(paid:Nat→List Nat)(b:Bool)(loose':Nat→Nat)(paid':Nat→List Nat):Prop:=
 (b=true∧Board n loose' paid' T∧loose' p=loose p+1∧loose' k=loose k)∨(b=false∧loose'=loose∧paid'=paid∧∃s,Shut loose paid (pair p k) s∧∀q∈ paid p,s q=true)
theorem Qmw{n p k:Nat}{T:List Edge}{loose loose':Nat→Nat}{paid paid':Nat→List Nat}(h:Board n loose paid T)(hpk:p≠k)(g:Gave n p (putP (pair p k) p false) loose paid loose' paid')(hl:loose' p=loose p):
 FetchSays n p k T loose paid true (putP loose' p (loose' p+1)) paid':=by
 refine Or.inl ⟨rfl,h.fetch g,by rw[Qab,hl],?_⟩;rw[Qaa _ _ (Ne.symm hpk)];refine(g.1 k ?_).1;rw[Qaa _ _ (Ne.symm hpk)];simp[pair]
set_option maxRecDepth 100000 in
set_option maxHeartbeats 4000000 in
theorem Qg2{B0 B n g gl gp gm:Nat}(hn:n≤10)(w:World)(hv:Nat→Value)(loose:Nat→Nat)(paid:Nat→List Nat)(seen:PSet)(T:List Edge)(p k:Nat)
 (h:PB w B0 B n g gl gp gm hv loose paid seen) (hB:Board n loose paid T) (hp:p<n) (hk:k<n) (hpk:p≠k):
 Calls Tryz.prog 141 #[brdV g,nv p,nv k] w fun e w'=>∃b hv' loose' paid' seen',e=.returned (.bool b)∧PB w' B0 B n g gl gp gm hv' loose' paid' seen'∧Kp B0 w w'∧FetchSays n p k T loose paid b loose' paid':=by
 obtain⟨es,c,hm,hi⟩:=h.map;have HBO:=Hi hB;have HPK:=Hi hpk;have c2:w.cell? ⟨g,2,none⟩=some (.map (some gm)):=h.brd.cell 2;have hclr:(Builtin.clear_ #[194] 0 #[.map (some gm)]).run Tryz.prog w=_:=Qnd hm 0;obtain⟨U,hU⟩:∃U,({ w with heap:=w.heap.setIfInBounds gm (.map #[] c) }:World)=U:=⟨_,rfl⟩;have hpu:PB U B0 B n g gl gp gm hv loose paid (fun _=>false):=by rw[←hU];exact h.setMap ISet.empty
 have hKU:Kp B0 w U:=by rw[←hU];exact(Kp.refl _ _).map hm h.lo.2.2.2 _
 have hmU:U.drew.heap[gm]?=some (.map #[] c):=by rw[←hU];exact map_same (by have:=h.hi;omega)
 rw[hU] at hclr;have hgm:B0≤gm:=h.lo.2.2.2;have hpud:=hpu.drew;have hKUd:=hKU.drew;obtain⟨D,hD⟩:∃D,U.drew=D:=⟨_,rfl⟩;rw[hD] at hmU hpud hKUd;have e1:(Instr.mapEntry 194 (.map (some gm)) (.int .i64 (p:Int))).run Tryz.prog D=_:=Qcr hmU ISet.empty p rfl;obtain⟨Wp,hWp⟩:∃Wp,({ D with heap:=D.heap.setIfInBounds gm (.map ((#[]:Array MapEntry).push { key:=nv p,val:=.agg #[],born:=c }) (c+1)) }:World)=Wp:=⟨_,rfl⟩;have pWp:PB Wp B0 B n g gl gp gm hv loose paid (putP (fun _=>false) p true):=by rw[←hWp];exact hpud.setMap (ISet.empty.push p c)
 have kWp:Kp B0 w Wp:=by rw[←hWp];exact hKUd.map hmU hgm _
 have mWp:Wp.heap[gm]?=some (.map ((#[]:Array MapEntry).push { key:=nv p,val:=.agg #[],born:=c }) (c+1)):=by rw[←hWp];exact map_same (by have:=hpud.hi;omega)
 rw[hWp] at e1;have e2:(Instr.mapEntry 194 (.map (some gm)) (.int .i64 (k:Int))).run Tryz.prog Wp=_:=Qcr mWp (ISet.empty.push p c) k (by rw[Qaa _ _ (Ne.symm hpk)]);obtain⟨Wpk,hWpk⟩:∃Wpk,({ Wp with heap:=Wp.heap.setIfInBounds gm (.map (((#[]:Array MapEntry).push { key:=nv p,val:=.agg #[],born:=c }).push { key:=nv k,val:=.agg #[],born:=c+1 }) (c+1+1)) }:World)=Wpk:=⟨_,rfl⟩;have pWpk:PB Wpk B0 B n g gl gp gm hv loose paid (pair p k):=by rw[←hWpk,←Qg1];exact pWp.setMap ((ISet.empty.push p c).push k (c+1))
 have kWpk:Kp B0 w Wpk:=by rw[←hWpk];exact kWp.map mWp hgm _
 have mWpk:Wpk.heap[gm]?=some (.map (((#[]:Array MapEntry).push { key:=nv p,val:=.agg #[],born:=c }).push { key:=nv k,val:=.agg #[],born:=c+1 }) (c+1+1)):=by rw[←hWpk];exact map_same (by have:=pWp.hi;omega)
 rw[hWpk] at e2;have e3:(Instr.mapEntry 194 (.map (some gm)) (.int .i64 (k:Int))).run Tryz.prog D=_:=Qcr hmU ISet.empty k rfl;obtain⟨Wk,hWk⟩:∃Wk,({ D with heap:=D.heap.setIfInBounds gm (.map ((#[]:Array MapEntry).push { key:=nv k,val:=.agg #[],born:=c }) (c+1)) }:World)=Wk:=⟨_,rfl⟩;have pWk:PB Wk B0 B n g gl gp gm hv loose paid (putP (fun _=>false) k true):=by rw[←hWk];exact hpud.setMap (ISet.empty.push k c)
 have kWk:Kp B0 w Wk:=by rw[←hWk];exact hKUd.map hmU hgm _
 have mWk:Wk.heap[gm]?=some (.map ((#[]:Array MapEntry).push { key:=nv k,val:=.agg #[],born:=c }) (c+1)):=by rw[←hWk];exact map_same (by have:=hpud.hi;omega)
 rw[hWk] at e3;have e4:(Instr.mapEntry 194 (.map (some gm)) (.int .i64 (p:Int))).run Tryz.prog Wk=_:=Qcr mWk (ISet.empty.push k c) p (by rw[Qaa _ _ hpk]);obtain⟨Wkp,hWkp⟩:∃Wkp,({ Wk with heap:=Wk.heap.setIfInBounds gm (.map (((#[]:Array MapEntry).push { key:=nv k,val:=.agg #[],born:=c }).push { key:=nv p,val:=.agg #[],born:=c+1 }) (c+1+1)) }:World)=Wkp:=⟨_,rfl⟩;have pWkp:PB Wkp B0 B n g gl gp gm hv loose paid (pair p k):=by rw[←hWkp,Qmv,←Qg1];exact pWk.setMap ((ISet.empty.push k c).push p (c+1))
 have kWkp:Kp B0 w Wkp:=by rw[←hWkp];exact kWk.map mWk hgm _
 have mWkp:Wkp.heap[gm]?=some (.map (((#[]:Array MapEntry).push { key:=nv k,val:=.agg #[],born:=c }).push { key:=nv p,val:=.agg #[],born:=c+1 }) (c+1+1)):=by rw[←hWkp];exact map_same (by have:=pWk.hi;omega)
 rw[hWkp] at e4;obtain⟨d,hd⟩:∃d,d=c+1:=⟨_,rfl⟩;have f1:(Instr.entryStore 194 (.map (some gm)) (.int .i64 (c:Int)) (.agg #[])).run Tryz.prog Wp=.ok () Wp:=Qbi mWp (ISet.empty.push p c) c ⟨_,by simp;rfl,rfl⟩;have f2:(Instr.entryStore 194 (.map (some gm)) (.int .i64 (c:Int)) (.agg #[])).run Tryz.prog Wpk=.ok () Wpk:=Qbi mWpk ((ISet.empty.push p c).push k (c+1)) c ⟨{ key:=nv p,val:=.agg #[],born:=c },by simp,rfl⟩;have f3:(Instr.entryStore 194 (.map (some gm)) (.int .i64 (d:Int)) (.agg #[])).run Tryz.prog Wpk=.ok () Wpk:=Qbi mWpk ((ISet.empty.push p c).push k (c+1)) d ⟨{ key:=nv k,val:=.agg #[],born:=c+1 },by simp,hd.symm⟩;have f4:(Instr.entryStore 194 (.map (some gm)) (.int .i64 (c:Int)) (.agg #[])).run Tryz.prog Wk=.ok () Wk:=Qbi mWk (ISet.empty.push k c) c ⟨_,by simp;rfl,rfl⟩
 have f5:(Instr.entryStore 194 (.map (some gm)) (.int .i64 (c:Int)) (.agg #[])).run Tryz.prog Wkp=.ok () Wkp:=Qbi mWkp ((ISet.empty.push k c).push p (c+1)) c ⟨{ key:=nv k,val:=.agg #[],born:=c },by simp,rfl⟩;have f6:(Instr.entryStore 194 (.map (some gm)) (.int .i64 (d:Int)) (.agg #[])).run Tryz.prog Wkp=.ok () Wkp:=Qbi mWkp ((ISet.empty.push k c).push p (c+1)) d ⟨{ key:=nv p,val:=.agg #[],born:=c+1 },by simp,hd.symm⟩;rw[←hd] at e2 e4;have cD:U.cell? ⟨g,2,none⟩=some (.map (some gm)):=hpu.brd.cell 2;have cWp:Wp.cell? ⟨g,2,none⟩=some (.map (some gm)):=pWp.brd.cell 2;have cWk:Wk.cell? ⟨g,2,none⟩=some (.map (some gm)):=pWk.brd.cell 2;have cWpk:Wpk.cell? ⟨g,2,none⟩=some (.map (some gm)):=pWpk.brd.cell 2;have cWkp:Wkp.cell? ⟨g,2,none⟩=some (.map (some gm)):=pWkp.brd.cell 2;rw[←hD] at e1 e3;have HP1:=Hi pWpk;have HP2:=Hi pWkp;have HK1:=Hi kWpk;have HK2:=Hi kWkp
 clear h hm hi hpu hKU hmU hU hgm hpud hKUd hD hWp pWp kWp mWp hWpk pWpk kWpk mWpk hWk pWk kWk mWk hWkp pWkp kWkp mWkp hd hB hpk;go_enter Tryz.func141,Tryz.ntmps141;go_wp2_with fail;go_cut [6] (fun s6 wc=>s6=.bool false∧PB wc B0 B n g gl gp gm hv loose paid (pair p k)∧Kp B0 w wc)
 case first=>
  go_region_held3 (fun v=>v.cell? ⟨g,2,none⟩=some (.map (some gm))) ((first|(simp [*];done)|go_keep)) (first|fail)
  all_goals
   go_wp2_with fail;go_meet
   case rel=>first|exact⟨rfl,HP1.out,HK1.out⟩|exact⟨rfl,HP2.out,HK2.out⟩
 case rest=>
  obtain⟨rfl,hpb,hkp⟩:=hcut;obtain⟨wx,rfl⟩:∃wx,wx=wc:=⟨wc,rfl⟩;have HC:=Hi (Qmu (B0:=B0) (B:=B) (g:=g) (gl:=gl) (gp:=gp) (gm:=gm) hn (unseen n (pair p k)) wx hv loose paid (pair p k) p hpb HBO.out.bd hp (by simp[pair]) (Nat.le_refl _));have HKX:=Hi hkp;clear hpb hkp c2 hclr e1 e2 e3 e4 f1 f2 f3 f4 f5 f6 cD cWp cWk cWpk cWkp;go_wp2_with fail;go_fit HC.out;rintro e w1 ⟨b,hv1,loose1,paid1,seen1,rfl,hpb1,hkp1,hsay⟩;rcases hsay with ⟨rfl,hg,hl⟩|⟨rfl,rfl,rfl,rfl,hsh,hall⟩
  ·
   have hlp:loose1 p≤2:=by have:=HBO.out.1 p hp;omega
   have c0:w1.cell? ⟨g,0,none⟩=some (.slice (some ⟨gl,0,none⟩) n n):=hpb1.brd.cell 0;have l0:w1.cell? ⟨gl,p,none⟩=some (.int .i64 (loose1 p:Int)):=(hpb1.ls.cell p).trans (Qaf _ hp);have fz:w1.frozen? ⟨gl,p,none⟩=false:=hpb1.ls.free p;have t1:IntKind.i64.wrap ((loose1 p:Int)+1)=((loose1 p+1:Nat):Int):=by
    rw[show ((loose1 p:Int)+1)=((loose1 p+1:Nat):Int) by omega];simp[IntKind.wrap,IntKind.signed,IntKind.bits];omega
   obtain⟨x,hx⟩:∃x,loose1 p+1=x:=⟨_,rfl⟩;rw[hx] at t1;have HPX:Hid (PB (w1.setCell ⟨gl,p,none⟩ (nv x)) B0 B n g gl gp gm hv1 (putP loose1 p (loose1 p+1)) paid1 seen1):=Hi (by rw[hx];exact hpb1.setLoose p x);have HKY:Hid (Kp B0 w (w1.setCell ⟨gl,p,none⟩ (nv x))):=Hi ((HKX.out.trans hkp1).setCell hpb1.ls (by decide) hpb1.lo.2.1 _ _);have HFS:=Hi (Qmw HBO.out HPK.out hg hl);clear hpb1 hkp1 hg hl hx hlp;go_wp2;go_ret
   first
    |exact⟨true,hv1,_,paid1,seen1,rfl,HPX.out,HKY.out,HFS.out⟩
    |exact Or.inr ⟨rfl,hv1,_,paid1,seen1,HPX.out,HKY.out,HFS.out⟩
  ·
   have HPX:=Hi hpb1;have HKY:=Hi (HKX.out.trans hkp1);have HSH:=Hi hsh;have HALL:=Hi hall;clear hpb1 hkp1 hsh hall;go_wp2;go_ret
   first
    |exact⟨false,hv1,loose1,paid1,seen1,rfl,HPX.out,HKY.out,Or.inr ⟨rfl,rfl,rfl,seen1,HSH.out,HALL.out⟩⟩
    |exact Or.inl ⟨rfl,hv1,loose1,paid1,seen1,HPX.out,HKY.out,Or.inr ⟨rfl,rfl,rfl,seen1,HSH.out,HALL.out⟩⟩
end Go.Proofs.YtbbkamnfjejceaaGreatDoor.Peb
namespace Go.Proofs.YtbbkamnfjejceaaGreatDoor.Peb
open Go.RowKit Go.MapKept
set_option linter.unusedVariables false
set_option linter.unusedSimpArgs false
def appRun(P:Program)(t ty:TypeId)(vs vx:Value)(w:World):Result Value:=(Builtin.append_ #[t,t] ty #[vs,vx]).run P w
@[go_sem ↓] theorem Qqt (ρ:Operand→Value) (dst:Option Tmp) (x y:Operand) (t ty:TypeId) (pos:String) (after:Array Go.Edge) (guard:Option (Nat × Bool)) (w:World):
   (execOp ρ { dst,op:=.call { callee:=.builtin .append,args:=#[x,y],argTypes:=#[t,t] },type:=ty,pos,after,guard }).run Tryz.prog w=(appRun Tryz.prog t ty (ρ x) (ρ y) w).andThen (fun v w'=>.ok (.value v) w'):=by
  have e:(#[x,y]:Array Operand).map ρ=#[ρ x,ρ y]:=by simp
  rw[BigFrame.execOp_builtin,BigFrame.builtin_append,e,Sem.run_bind]
  unfold appRun
  simp only[Sem.run_pure]
def cellNat(w:World)(g i:Nat):Nat:=match w.cell? ⟨g,i,none⟩ with|some (.int _ z)=>z.toNat|_=>0
theorem PB.cellNat{w:World}{B0 B n g gl gp gm:Nat}{hv:Nat→Value}{loose:Nat→Nat}{paid:Nat→List Nat}{seen:PSet}(h:PB w B0 B n g gl gp gm hv loose paid seen){p:Nat}(hp:p<n):cellNat w gl p=loose p:=by
 unfold Go.Proofs.YtbbkamnfjejceaaGreatDoor.Peb.cellNat;rw[(h.ls.cell p).trans (Qaf _ hp)];simp
def TakeSays(n a b:Nat)(T:List Edge)(r:Bool)(loose':Nat→Nat)(paid':Nat→List Nat):Prop:=
 (r=true↔Sparse n ((a,b) :: T))∧Board n loose' paid' (if r then (a,b) :: T else T)
set_option maxRecDepth 100000 in
set_option maxHeartbeats 4000000 in
theorem Qhn{B0 B n g gl gp gm:Nat}(hn:n≤10)(w:World)(hv:Nat→Value)(loose:Nat→Nat)(paid:Nat→List Nat)(seen:PSet)(T:List Edge)(a b:Nat)
 (h:PB w B0 B n g gl gp gm hv loose paid seen) (hB:Board n loose paid T) (hT:Sparse n T) (ha:a<n) (hb:b<n) (hab:a≠b):
 Calls Tryz.prog 80 #[brdV g,.agg #[nv a,nv b]] w fun e w'=>∃r hv' loose' paid' seen',e=.returned (.bool r)∧PB w' B0 B n g gl gp gm hv' loose' paid' seen'∧Kp B0 w w'∧TakeSays n a b T r loose' paid':=by
 have HBO:=Hi hB;have HT:=Hi hT;have HAB:=Hi hab;obtain⟨V,hV⟩:∃V,w.alloc (.cells #[.int .i64 (a:Int),.int .i64 (b:Int)] 69)=V:=⟨_,rfl⟩;have hbw:B0≤w.heap.size:=by have:=h.hi;have:=h.lo;omega
 have HPV:Hid (PB V B0 B n g gl gp gm hv loose paid seen):=Hi (by rw[←hV];exact h.alloc _);have HKV:Hid (Kp B0 w V):=Hi (by rw[←hV];exact(Kp.refl _ _).alloc hbw _);have HSV:Hid (SB V w.heap.size 69 #[.int .i64 (a:Int),.int .i64 (b:Int)]):=Hi (by rw[←hV];exact SB.new w _ _);have HV:=Hi hV;clear h hB hT hab hbw hV;go_enter Tryz.func80,Tryz.ntmps80;go_wp2_with fail;rw[HV.out];obtain⟨s,hs⟩:∃s,w.heap.size=s:=⟨_,rfl⟩;rw[hs] at HSV ⊢;clear hs;go_loopw [22] (fun _ wr=>∃(hv':Nat→Value) (loose':Nat→Nat) (paid':Nat→List Nat) (seen':PSet),PB wr B0 B n g gl gp gm hv' loose' paid' seen'∧Kp B0 w wr∧Board n loose' paid' T∧SB wr s 69 #[.int .i64 (a:Int),.int .i64 (b:Int)]) (fun _ wr=>4 - (cellNat wr gl a+cellNat wr gl b))
 case atStart=>exact⟨hv,loose,paid,seen,HPV.out,HKV.out,HBO.out,HSV.out⟩
 case round=>
  obtain⟨hv1,loose1,paid1,seen1,hpb,hkp,hbo,hsb⟩:=hrel;have HP1:=Hi hpb;have HK1:=Hi hkp;have HB1:=Hi hbo;have HS1:=Hi hsb;have HM:Hid (cellNat wr gl a+cellNat wr gl b=loose1 a+loose1 b):=Hi (by rw[hpb.cellNat ha,hpb.cellNat hb]);have hla:loose1 a≤2:=by have:=hbo.1 a ha;omega
  have hlb:loose1 b≤2:=by have:=hbo.1 b hb;omega
  have c0:wr.cell? ⟨g,0,none⟩=some (.slice (some ⟨gl,0,none⟩) n n):=hpb.brd.cell 0;have s0:wr.cell? ⟨s,0,none⟩=some (.int .i64 (a:Int)):=hsb.cell 0;have s1:wr.cell? ⟨s,1,none⟩=some (.int .i64 (b:Int)):=hsb.cell 1;have l0:wr.cell? ⟨gl,a,none⟩=some (.int .i64 (loose1 a:Int)):=(hpb.ls.cell a).trans (Qaf _ ha);have l1:wr.cell? ⟨gl,b,none⟩=some (.int .i64 (loose1 b:Int)):=(hpb.ls.cell b).trans (Qaf _ hb);have HF1:=Hi (Qg2 (B0:=B0) (B:=B) hn wr.drew hv1 loose1 paid1 seen1 T a b hpb.drew hbo ha hb HAB.out);clear hpb hkp hbo hsb;go_wp2_with fail;go_region;by_cases hlt:loose1 a+loose1 b<4
  ·
   have q1:((loose1 a:Int)+(loose1 b:Int)<4):=by omega
   clear c0 s0 s1 l0 l1;have s0:wr.drew.cell? ⟨s,0,none⟩=some (.int .i64 (a:Int)):=HS1.out.cell 0;have s1:wr.drew.cell? ⟨s,1,none⟩=some (.int .i64 (b:Int)):=HS1.out.cell 1;go_wp2_with fail;go_fit HF1.out;rintro e w1 ⟨r1,hv2,loose2,paid2,seen2,rfl,hpb2,hkp2,hsay⟩;rcases hsay with ⟨rfl,hbo2,hl1,hl2⟩|⟨rfl,rfl,rfl,st1,hsh1,hal1⟩
   ·
    have HK2:=Hi (HK1.out.drew.trans hkp2);have HS2:=Hi (Kp.sb hkp2 (show SB wr.drew s 69 _ from HS1.out) rfl);have HME:Hid (cellNat w1 gl a+cellNat w1 gl b=loose1 a+loose1 b+1):=Hi (by rw[hpb2.cellNat ha,hpb2.cellNat hb];omega);have HP2:=Hi hpb2;have HB2:=Hi hbo2;clear hpb2 hkp2 hbo2 hl1 hl2 s0 s1;go_wp2;go_roundw
    case rel=>exact⟨hv2,loose2,paid2,seen2,HP2.out,HK2.out,HB2.out,HS2.out⟩
    case measure=>rw[HME.out,HM.out];omega
   ·
    have HF2:=Hi (Qg2 (B0:=B0) (B:=B) hn w1 hv2 loose2 paid2 seen2 T b a hpb2 HB1.out hb ha (Ne.symm HAB.out));have HK2:=Hi (HK1.out.drew.trans hkp2);have hs2:=Kp.sb hkp2 (show SB wr.drew s 69 _ from HS1.out) rfl;have HS2:=Hi hs2;have s0':w1.cell? ⟨s,0,none⟩=some (.int .i64 (a:Int)):=hs2.cell 0;have s1':w1.cell? ⟨s,1,none⟩=some (.int .i64 (b:Int)):=hs2.cell 1;have HSH1:=Hi hsh1;have HAL1:=Hi hal1;clear hpb2 hkp2 hs2 hsh1 hal1 s0 s1;go_wp2_with fail;go_fit HF2.out;rintro e w2 ⟨r2,hv3,loose3,paid3,seen3,rfl,hpb3,hkp3,hsay⟩;rcases hsay with ⟨rfl,hbo3,hl1,hl2⟩|⟨rfl,rfl,rfl,st2,hsh2,hal2⟩
    ·
     have HK3:=Hi (HK2.out.trans hkp3);have HS3:=Hi (Kp.sb hkp3 HS2.out rfl);have HME:Hid (cellNat w2 gl a+cellNat w2 gl b=loose2 a+loose2 b+1):=Hi (by rw[hpb3.cellNat ha,hpb3.cellNat hb];omega);have HP3:=Hi hpb3;have HB3:=Hi hbo3;clear hpb3 hkp3 hbo3 hl1 hl2 s0' s1';go_wp2;go_roundw
     case rel=>exact⟨hv3,loose3,paid3,seen3,HP3.out,HK3.out,HB3.out,HS3.out⟩
     case measure=>rw[HME.out,HM.out];omega
    ·
     have HK3:=Hi (HK2.out.trans hkp3);have HP3:=Hi hpb3;have HNS:Hid (TakeSays n a b T false loose3 paid3):=Hi ⟨⟨(fun h=>by cases h),fun h=>absurd h (Qm6 HB1.out ha hb HAB.out hlt HSH1.out HAL1.out hsh2 hal2)⟩,HB1.out⟩;clear hpb3 hkp3 hsh2 hal2 s0' s1';go_wp2;go_ret
     first
      |exact⟨false,hv3,loose3,paid3,seen3,rfl,HP3.out,HK3.out,HNS.out⟩
      |exact Or.inl ⟨rfl,hv3,loose3,paid3,seen3,HP3.out,HK3.out,HNS.out⟩
  ·
   have q1:¬((loose1 a:Int)+(loose1 b:Int)<4):=by omega
   have hla2:0<loose1 a:=by omega
   have e2:IntKind.i64.wrap ((loose1 a:Int) - 1)=((loose1 a - 1:Nat):Int):=by
    rw[show ((loose1 a:Int) - 1)=((loose1 a - 1:Nat):Int) by omega];simp[IntKind.wrap,IntKind.signed,IntKind.bits];omega
   obtain⟨x,hx⟩:∃x,loose1 a - 1=x:=⟨_,rfl⟩;rw[hx] at e2;obtain⟨D,hD⟩:∃D,wr.drew=D:=⟨_,rfl⟩;have hpd:PB D B0 B n g gl gp gm hv1 loose1 paid1 seen1:=by rw[←hD];exact HP1.out.drew
   have hkd:Kp B0 w D:=by rw[←hD];exact HK1.out.drew
   have hsd:SB D s 69 #[.int .i64 (a:Int),.int .i64 (b:Int)]:=by rw[←hD];exact HS1.out
   rw[hD];have c0:D.cell? ⟨g,0,none⟩=some (.slice (some ⟨gl,0,none⟩) n n):=hpd.brd.cell 0;have s0:D.cell? ⟨s,0,none⟩=some (.int .i64 (a:Int)):=hsd.cell 0;have l0:D.cell? ⟨gl,a,none⟩=some (.int .i64 (loose1 a:Int)):=(hpd.ls.cell a).trans (Qaf _ ha);have z0:D.frozen? ⟨gl,a,none⟩=false:=hpd.ls.free a;obtain⟨E,hE⟩:∃E,(D.setCell ⟨gl,a,none⟩ (.int .i64 (x:Int))).drew=E:=⟨_,rfl⟩;have hpe:PB E B0 B n g gl gp gm hv1 (putP loose1 a (loose1 a - 1)) paid1 seen1:=by rw[←hE,hx];exact(hpd.setLoose a x).drew
   have hke:Kp B0 w E:=by rw[←hE];exact(hkd.setCell hpd.ls rfl hpd.lo.2.1 _ _).drew
   have hse:SB E s 69 #[.int .i64 (a:Int),.int .i64 (b:Int)]:=by
    rw[←hE];refine SB.keep (w:=D) hsd (Below.heap_setCell _ _ _ _ ?_);rintro rfl;have h1:=hpd.ls;unfold SB at h1 hsd;rw[h1] at hsd;simp at hsd
   have HE:=Hi hE;have HPE:=Hi hpe;have HKE:=Hi hke;have HSE:=Hi hse;clear hx hD hpd hkd hsd hE hpe hke hse;go_wp2_with fail;go_region;rw[HE.out];clear c0 s0 l0 z0 e2;obtain⟨aq,cq,hvq⟩:∃aq cq,hv1 a=.slice aq (paid1 a).length cq:=by
    rcases(HPE.out.rows a ha).at with ⟨e1,e2⟩|⟨bq,cq,e1,_⟩
    · exact⟨none,0,by rw[e1,e2];rfl⟩
    · exact⟨_,_,e1⟩
   obtain⟨mq,hmq⟩:∃mq,(paid1 a).length=mq:=⟨_,rfl⟩;rw[hmq] at hvq;obtain⟨X,hX⟩:∃X,(E.alloc (.cells #[.int .i64 (b:Int)] 3)).drew=X:=⟨_,rfl⟩;have hpx:PB X B0 B n g gl gp gm hv1 (putP loose1 a (loose1 a - 1)) paid1 seen1:=by rw[←hX];exact(HPE.out.alloc _).drew
   have hsx:SB X s 69 #[.int .i64 (a:Int),.int .i64 (b:Int)]:=by rw[←hX];exact HSE.out.alloc _
   have hkx:Kp B0 w X:=by
    rw[←hX];exact(HKE.out.alloc (by have:=HPE.out.hi;have:=HPE.out.lo;omega) _).drew
   have hrx:=hpx.rows a ha;have hcX:X.cell? ⟨E.heap.size,0,none⟩=some (nv b):=by
    rw[←hX];exact(SB.new E 3 #[nv b]).cell 0
   obtain⟨v3,W3,hrun,hrow3,hgr,hat3⟩:=hrx.app (by have:=HB1.out.1 a ha;omega) hpx.hi.2.2.2.2 ⟨E.heap.size,0,none⟩ b hcX 1 181;obtain⟨a3,m3,c3,hv3⟩:∃a3 m3 c3,v3=.slice a3 m3 c3:=by
    rcases hrow3.at with ⟨e1,e2⟩|⟨bq,cq,e1,_⟩
    · exact⟨_,_,_,e1⟩
    · exact⟨_,_,_,e1⟩
   have hfar:∀bb,bb<B→W3.heap[bb]?=X.heap[bb]?:=fun bb hbb=>hgr.block bb (by have:=hpx.hi;omega) (fun e=>by
    have:=(hrx.block e.symm).1
    omega)
   have hs3:SB W3 s 69 #[.int .i64 (a:Int),.int .i64 (b:Int)]:=hsx.keep (hgr.block s hsx.lt (fun e=>by
    obtain⟨_,C,hC⟩:=hrx.block e.symm;unfold SB at hC hsx;rw[hC] at hsx
    simp at hsx))
   have hgp3:SB W3 gp 181 (lsArr n hv1):=hpx.hd.keep (hfar gp hpx.hi.2.2.1);have hg3:=hpx.brd.keep (hfar g hpx.hi.1);have hpb4:PB (W3.setCell ⟨gp,a,none⟩ v3) B0 B n g gl gp gm (putP hv1 a v3) (putP loose1 a (loose1 a - 1)) (putP paid1 a (paid1 a++ [b])) seen1:=by
    refine hpx.setRow ha hgr.size (fun bb hb hne=>hgr.block bb hb (fun e=>hne (by rw[e]))) hrow3 ?_;rcases hat3 with e|e
    · exact Or.inl e
    · exact Or.inr (fun bb hb=>by rw[e] at hb;injection hb with hb;omega)
   have hk3:Kp B0 w W3:=hkx.grown hgr (by have:=hpx.hi;have:=hpx.lo;omega) (fun gg hgg=>by
    obtain⟨e1,C,e2⟩:=hrx.block hgg
    exact⟨by have:=hpx.hi;have:=hpx.lo;omega,_,C,e2,rfl⟩)
   have HK4:Hid (Kp B0 w (W3.setCell ⟨gp,a,none⟩ v3)):=Hi (hk3.setCell hgp3 rfl hpx.lo.2.2.1 _ _);have HP4:=Hi hpb4;have HTS:Hid (TakeSays n a b T true (putP loose1 a (loose1 a - 1)) (putP paid1 a (paid1 a++ [b]))):=Hi ⟨⟨fun _=>room (e:=(a,b)) HB1.out HT.out ha hb HAB.out (by simp only;omega),fun _=>rfl⟩,HB1.out.take ha hb hla2⟩;have c1:E.cell? ⟨g,1,none⟩=some (.slice (some ⟨gp,0,none⟩) n n):=HPE.out.brd.cell 1;have s0:E.cell? ⟨s,0,none⟩=some (.int .i64 (a:Int)):=HSE.out.cell 0;have s1:E.cell? ⟨s,1,none⟩=some (.int .i64 (b:Int)):=HSE.out.cell 1;have d1:E.cell? ⟨gp,a,none⟩=some (.slice aq mq cq):=by rw[←hvq];exact(HPE.out.hd.cell a).trans (Qaf _ ha)
   have c1x:(E.alloc (.cells #[.int .i64 (b:Int)] 3)).cell? ⟨g,1,none⟩=some (.slice (some ⟨gp,0,none⟩) n n):=(HPE.out.alloc _).brd.cell 1;have s0x:(E.alloc (.cells #[.int .i64 (b:Int)] 3)).cell? ⟨s,0,none⟩=some (.int .i64 (a:Int)):=(HSE.out.alloc _).cell 0;have s1x:(E.alloc (.cells #[.int .i64 (b:Int)] 3)).cell? ⟨s,1,none⟩=some (.int .i64 (b:Int)):=(HSE.out.alloc _).cell 1;have d1x:(E.alloc (.cells #[.int .i64 (b:Int)] 3)).cell? ⟨gp,a,none⟩=some (.slice aq mq cq):=by rw[←hvq];exact((HPE.out.alloc _).hd.cell a).trans (Qaf _ ha)
   have c13:W3.cell? ⟨g,1,none⟩=some (.slice (some ⟨gp,0,none⟩) n n):=hg3.cell 1;have s03:W3.cell? ⟨s,0,none⟩=some (.int .i64 (a:Int)):=hs3.cell 0;have s13:W3.cell? ⟨s,1,none⟩=some (.int .i64 (b:Int)):=hs3.cell 1;have hsgp:s≠gp:=by
    rintro rfl;unfold SB at hs3 hgp3;rw[hs3] at hgp3;simp at hgp3
   have hsF:SB (W3.setCell ⟨gp,a,none⟩ v3) s 69 #[.int .i64 (a:Int),.int .i64 (b:Int)]:=hs3.keep (Below.heap_setCell _ _ _ _ hsgp);have cF1:(W3.setCell ⟨gp,a,none⟩ v3).cell? ⟨g,1,none⟩=some (.slice (some ⟨gp,0,none⟩) n n):=hpb4.brd.cell 1;have cF2:(W3.setCell ⟨gp,a,none⟩ v3).cell? ⟨s,0,none⟩=some (.int .i64 (a:Int)):=hsF.cell 0;have cF3:(W3.setCell ⟨gp,a,none⟩ v3).cell? ⟨s,1,none⟩=some (.int .i64 (b:Int)):=hsF.cell 1;have d13:W3.cell? ⟨gp,a,none⟩=some (.slice aq mq cq):=by rw[←hvq];exact(hgp3.cell a).trans (Qaf _ ha)
   have z13:W3.frozen? ⟨gp,a,none⟩=false:=hgp3.free a;rw[hv3] at hrun HP4 HK4 cF1 cF2 cF3;rw[hvq,←hX] at hrun;have happ:appRun Tryz.prog 181 181 (.slice aq mq cq) (.slice (some ⟨E.heap.size,0,none⟩) 1 1) (E.alloc (.cells #[.int .i64 (b:Int)] 3)).drew=.ok (.slice a3 m3 c3) W3:=hrun;clear hvq hmq hX hpx hsx hkx hrx hcX hrow3 hgr hat3 hv3 hfar hs3 hgp3 hg3 hpb4 hk3 hrun hsgp hsF;go_wp2_with fail;go_cut [4] (fun s4 wc=>wc=W3.setCell ⟨gp,a,none⟩ (.slice a3 m3 c3))
   case first=>
    refine wp_region_held_drew (S:=(fun v=>v.cell? ⟨g,1,none⟩=some (.slice (some ⟨gp,0,none⟩) n n)∧v.cell? ⟨s,0,none⟩=some (.int .i64 (a:Int))∧v.cell? ⟨s,1,none⟩=some (.int .i64 (b:Int)))) (by kernel_rfl) ⟨c1,s0,s1⟩ (fun hHeld=>?_);refine wpAnyH_take (i:=0) (v:=?_) rfl (by kernel_rfl) (by kernel_rfl) (by kernel_rfl) (fun _ _ _ h=>h) (Or.inl ⟨by rfl,?_⟩) (by assumption) ?_
    rotate_left
    ·
     intro w hSw;(try dsimp only at hSw)
     first|(go_simp;done)|(go_simp;with_reducible rfl)
    (try simp only[Act.put,List.setIfInBounds_toArray,List.set_cons_zero,List.set_cons_succ]);refine wpAnyH_take (i:=1) (v:=?_) rfl (by kernel_rfl) (by kernel_rfl) (by kernel_rfl) (fun _ _ _ h=>h) (Or.inl ⟨by rfl,?_⟩) (by assumption) ?_
    rotate_left
    ·
     intro w hSw;(try dsimp only at hSw)
     first|(go_simp;done)|(go_simp;with_reducible rfl)
    (try simp only[Act.put,List.setIfInBounds_toArray,List.set_cons_zero,List.set_cons_succ]);refine wpAnyH_take (i:=2) (v:=?_) rfl (by kernel_rfl) (by kernel_rfl) (by kernel_rfl) (fun _ _ _ h=>h) (Or.inl ⟨by rfl,?_⟩) (by assumption) ?_
    rotate_left
    ·
     intro w hSw;(try dsimp only at hSw)
     first|(go_simp;done)|(go_simp;with_reducible rfl)
    (try simp only[Act.put,List.setIfInBounds_toArray,List.set_cons_zero,List.set_cons_succ]);refine wpAnyH_take (i:=3) (v:=?_) rfl (by kernel_rfl) (by kernel_rfl) (by kernel_rfl) (fun _ _ _ h=>h) (Or.inl ⟨by rfl,?_⟩) (by assumption) ?_
    rotate_left
    ·
     intro w hSw;(try dsimp only at hSw)
     first|(go_simp;done)|(go_simp;with_reducible rfl)
    (try simp only[Act.put,List.setIfInBounds_toArray,List.set_cons_zero,List.set_cons_succ]);refine wpAnyH_take (i:=4) (v:=?_) rfl (by kernel_rfl) (by kernel_rfl) (by kernel_rfl) (fun _ _ _ h=>h) (Or.inl ⟨by rfl,?_⟩) (by assumption) ?_
    rotate_left
    ·
     intro w hSw;(try dsimp only at hSw)
     first|(go_simp;done)|(go_simp;with_reducible rfl)
    (try simp only[Act.put,List.setIfInBounds_toArray,List.set_cons_zero,List.set_cons_succ]);refine wpAnyH_take (i:=5) (v:=?_) rfl (by kernel_rfl) (by kernel_rfl) (by kernel_rfl) (fun _ _ _ h=>h) (Or.inl ⟨by rfl,?_⟩) (by assumption) ?_
    rotate_left
    ·
     intro w hSw;(try dsimp only at hSw)
     first|(go_simp;done)|(go_simp;with_reducible rfl)
    (try simp only[Act.put,List.setIfInBounds_toArray,List.set_cons_zero,List.set_cons_succ]);refine wpAnyH_take (i:=6) (v:=?_) rfl (by kernel_rfl) (by kernel_rfl) (by kernel_rfl) (fun _ _ _ h=>h) (Or.inl ⟨by rfl,?_⟩) (by assumption) ?_
    rotate_left
    ·
     intro w hSw;(try dsimp only at hSw)
     first|(go_simp;done)|(go_simp;with_reducible rfl)
    (try simp only[Act.put,List.setIfInBounds_toArray,List.set_cons_zero,List.set_cons_succ]);refine wpAnyH_take (i:=7) (v:=?_) rfl (by kernel_rfl) (by kernel_rfl) (by kernel_rfl) (fun _ _ _ h=>h) (Or.inl ⟨by rfl,?_⟩) (by assumption) ?_
    rotate_left
    ·
     intro w hSw;(try dsimp only at hSw)
     first|(go_simp;done)|(go_simp;with_reducible rfl)
    (try simp only[Act.put,List.setIfInBounds_toArray,List.set_cons_zero,List.set_cons_succ]);refine wpAnyH_take (i:=8) (v:=?_) rfl (by kernel_rfl) (by kernel_rfl) (by kernel_rfl) (fun _ _ _ h=>h) (Or.inl ⟨by rfl,?_⟩) (by assumption) ?_
    rotate_left
    ·
     intro w hSw;(try dsimp only at hSw)
     first|(go_simp;done)|(go_simp;with_reducible rfl)
    (try simp only[Act.put,List.setIfInBounds_toArray,List.set_cons_zero,List.set_cons_succ]);refine wpAnyH_take (i:=9) (v:=?_) rfl (by kernel_rfl) (by kernel_rfl) (by kernel_rfl) (fun _ _ _ h=>h) (Or.inl ⟨by rfl,?_⟩) (by assumption) ?_
    rotate_left
    ·
     intro w hSw;(try dsimp only at hSw)
     first|(go_simp;done)|(go_simp;with_reducible rfl)
    (try simp only[Act.put,List.setIfInBounds_toArray,List.set_cons_zero,List.set_cons_succ]);refine wpAnyH_take (i:=10) (v:=?_) rfl (by kernel_rfl) (by kernel_rfl) (by kernel_rfl) (fun _ _ _ h=>h) (Or.inl ⟨by rfl,?_⟩) (by assumption) ?_
    rotate_left
    ·
     intro w hSw;(try dsimp only at hSw)
     first|(go_simp;done)|(go_simp;with_reducible rfl)
    (try simp only[Act.put,List.setIfInBounds_toArray,List.set_cons_zero,List.set_cons_succ]);refine wpAnyH_take (i:=11) (v:=?_) rfl (by kernel_rfl) (by kernel_rfl) (by kernel_rfl) (fun _ _ _ h=>h) (Or.inl ⟨by rfl,?_⟩) (by assumption) ?_
    rotate_left
    ·
     intro w hSw;(try dsimp only at hSw)
     first|(go_simp;done)|(go_simp;with_reducible rfl)
    (try simp only[Act.put,List.setIfInBounds_toArray,List.set_cons_zero,List.set_cons_succ]);refine wpAnyH_take (i:=12) (v:=?_) rfl (by kernel_rfl) (by kernel_rfl) (by kernel_rfl) (fun _ _ _ h=>h) (Or.inl ⟨by rfl,?_⟩) (by assumption) ?_
    rotate_left
    ·
     intro w hSw;(try dsimp only at hSw)
     first|(go_simp;done)|(go_simp;with_reducible rfl)
    (try simp only[Act.put,List.setIfInBounds_toArray,List.set_cons_zero,List.set_cons_succ]);refine wpAnyH_take (i:=14) (v:=?_) rfl (by kernel_rfl) (by kernel_rfl) (by kernel_rfl) (fun _ _ _ h=>h) (Or.inl ⟨by rfl,?_⟩) (by assumption) ?_
    rotate_left
    ·
     intro w hSw;(try dsimp only at hSw)
     first|(go_simp;done)|(go_simp;with_reducible rfl)
    (try simp only[Act.put,List.setIfInBounds_toArray,List.set_cons_zero,List.set_cons_succ]);refine wpAnyH_take (i:=15) (v:=?_) rfl (by kernel_rfl) (by kernel_rfl) (by kernel_rfl) (fun _ _ _ h=>h) (Or.inl ⟨by rfl,?_⟩) (by assumption) ?_
    rotate_left
    ·
     intro w hSw;(try dsimp only at hSw)
     first|(go_simp;done)|(go_simp;with_reducible rfl)
    (try simp only[Act.put,List.setIfInBounds_toArray,List.set_cons_zero,List.set_cons_succ]);refine wpAnyH_ready (rs:=[13,16]) (by kernel_rfl) (by simp) ?_;refine AllReadyH.cons rfl (fun K hK=>?_) (AllReadyH.cons rfl (fun K hK=>?_) AllReadyH.nil)
    ·
     skip;go_simp;refine hK.out _ _ ?_ (fun hHeld=>?_)
     · exact⟨c1,s0,s1⟩
     clear hK K;(try simp only[Act.put,List.setIfInBounds_toArray,List.set_cons_zero,List.set_cons_succ]);refine wpAnyH_ready (rs:=[16]) (by kernel_rfl) (by simp) ?_;refine AllReadyH.cons rfl (fun K hK=>?_) AllReadyH.nil;go_simp;refine hK.out _ _ ?_ (fun hHeld=>?_)
     · exact⟨c1x,s0x,s1x⟩
     clear hK K;(try simp only[Act.put,List.setIfInBounds_toArray,List.set_cons_zero,List.set_cons_succ]);refine wpAnyH_ready (rs:=[17]) (by kernel_rfl) (by simp) ?_;refine AllReadyH.cons rfl (fun K hK=>?_) AllReadyH.nil;refine step_app (t:=181) rfl (.tmp 62) (.tmp 65) rfl (vs:=.slice aq mq cq) (vx:=.slice (some ⟨E.heap.size,0,none⟩) 1 1) (by simp[Act.eval]) (by simp[Act.eval]) happ ?_;refine hK.out _ _ ?_ (fun hHeld=>?_)
     · exact⟨c13,s03,s13⟩
     clear hK K;(try simp only[Act.put,List.setIfInBounds_toArray,List.set_cons_zero,List.set_cons_succ]);refine wpAnyH_take (i:=18) (v:=?_) rfl (by kernel_rfl) (by kernel_rfl) (by kernel_rfl) (fun _ _ _ h=>h) (Or.inl ⟨by rfl,?_⟩) (by assumption) ?_
     rotate_left
     ·
      intro w hSw;(try dsimp only at hSw)
      first|(go_simp;done)|(go_simp;with_reducible rfl)
     (try simp only[Act.put,List.setIfInBounds_toArray,List.set_cons_zero,List.set_cons_succ]);refine wpAnyH_ready (rs:=[19]) (by kernel_rfl) (by simp) ?_;refine AllReadyH.cons rfl (fun K hK=>?_) AllReadyH.nil;go_simp;refine hK.out _ _ ?_ (fun hHeld=>?_)
     · exact⟨cF1,cF2,cF3⟩
     clear hK K;(try simp only[Act.put,List.setIfInBounds_toArray,List.set_cons_zero,List.set_cons_succ]);refine wpAnyH_done (by kernel_rfl) ?_ _;go_wp2_with fail;go_meet
     case rel=>rfl
    ·
     skip;go_simp;refine hK.out _ _ ?_ (fun hHeld=>?_)
     · exact⟨c1x,s0x,s1x⟩
     clear hK K;(try simp only[Act.put,List.setIfInBounds_toArray,List.set_cons_zero,List.set_cons_succ]);refine wpAnyH_ready (rs:=[13]) (by kernel_rfl) (by simp) ?_;refine AllReadyH.cons rfl (fun K hK=>?_) AllReadyH.nil;go_simp;refine hK.out _ _ ?_ (fun hHeld=>?_)
     · exact⟨c1x,s0x,s1x⟩
     clear hK K;(try simp only[Act.put,List.setIfInBounds_toArray,List.set_cons_zero,List.set_cons_succ]);refine wpAnyH_ready (rs:=[17]) (by kernel_rfl) (by simp) ?_;refine AllReadyH.cons rfl (fun K hK=>?_) AllReadyH.nil;refine step_app (t:=181) rfl (.tmp 62) (.tmp 65) rfl (vs:=.slice aq mq cq) (vx:=.slice (some ⟨E.heap.size,0,none⟩) 1 1) (by simp[Act.eval]) (by simp[Act.eval]) happ ?_;refine hK.out _ _ ?_ (fun hHeld=>?_)
     · exact⟨c13,s03,s13⟩
     clear hK K;(try simp only[Act.put,List.setIfInBounds_toArray,List.set_cons_zero,List.set_cons_succ]);refine wpAnyH_take (i:=18) (v:=?_) rfl (by kernel_rfl) (by kernel_rfl) (by kernel_rfl) (fun _ _ _ h=>h) (Or.inl ⟨by rfl,?_⟩) (by assumption) ?_
     rotate_left
     ·
      intro w hSw;(try dsimp only at hSw)
      first|(go_simp;done)|(go_simp;with_reducible rfl)
     (try simp only[Act.put,List.setIfInBounds_toArray,List.set_cons_zero,List.set_cons_succ]);refine wpAnyH_ready (rs:=[19]) (by kernel_rfl) (by simp) ?_;refine AllReadyH.cons rfl (fun K hK=>?_) AllReadyH.nil;go_simp;refine hK.out _ _ ?_ (fun hHeld=>?_)
     · exact⟨cF1,cF2,cF3⟩
     clear hK K;(try simp only[Act.put,List.setIfInBounds_toArray,List.set_cons_zero,List.set_cons_succ]);refine wpAnyH_done (by kernel_rfl) ?_ _;go_wp2_with fail;go_meet
     case rel=>rfl
   case rest=>
    have hwc:=hcut;obtain rfl:=hwc.symm;clear c1 s0 s1 d1 c1x s0x s1x d1x c13 s03 s13 d13 z13 happ cF1 cF2 cF3;go_wp2;go_ret
    first
     |exact⟨true,_,_,_,seen1,rfl,HP4.out,HK4.out,HTS.out⟩
     |exact Or.inr ⟨rfl,_,_,_,seen1,HP4.out,HK4.out,HTS.out⟩
     |exact Or.inr ⟨rfl,_,_,_,⟨seen1,HP4.out⟩,HK4.out,HTS.out⟩
end Go.Proofs.YtbbkamnfjejceaaGreatDoor.Peb
