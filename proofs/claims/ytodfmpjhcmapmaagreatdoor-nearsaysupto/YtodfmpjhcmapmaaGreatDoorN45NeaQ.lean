/- package near: Pulls. -/
import Derived.Test.YtodfmpjhcmapmaaGreatDoorN44NeaN
namespace Go.Proofs.YtodfmpjhcmapmaaGreatDoor
open Go.RowKit
set_option linter.unusedVariables false
set_option linter.unusedSimpArgs false
theorem Tryz.infoF:(Tryz.prog.info? 41).map (fun i=>(i.zero,i.size,i.bytes))=some (some (.float .f64 0),1,8):=by kernel_rfl
def floatsV(l:List Nat):List Value:=l.map (Value.float .f64)
theorem Qoa(n:Nat):madeCells #[Value.float .f64 0] n=(floatsV (List.replicate n 0)).toArray:=by
 unfold madeCells floatsV;apply Array.ext
 · simp
 · intro i h1 h2
   simp[Nat.mod_one]
theorem Qho(n:Nat)(hn:n≤2199023255552)(w:World):
 (Instr.makeSlice 28 (.int .i64 n) (.int .i64 n)).run Tryz.prog w=.ok (.slice (some ⟨w.heap.size,0,none⟩) n n) (w.alloc (.cells (floatsV (List.replicate n 0)).toArray 41)):=by
 rw[←Qoa];exact Go.run_make_row' 28 41 (.float .f64 0) 8 Tryz.underlying28 Tryz.infoF rfl .i64 .i64 n (by omega) (by omega) w
theorem SB.floatAt{w:World}{g:Nat}{t:TypeId}{l:List Nat}(h:SB w g t (floatsV l).toArray)(i:Nat):w.cell? ⟨g,i,none⟩=(l[i]?).map (Value.float .f64):=by
 rw[h.cell];simp[floatsV]
def Leng(js:List S2)(b:B6)(q:Rat):Prop:=0<q∧∃(A B:Nat) (s t:S2) (x1 y1 x2 y2:Rat),b.a=(A:Int)∧b.b=(B:Int)∧js[A]?=some s∧js[B]?=some t∧
 QOf s.x.data.toList x1∧QOf s.y.data.toList y1∧QOf t.x.data.toList x2∧QOf t.y.data.toList y2∧q=(x2 - x1)*(x2 - x1)+(y2 - y1)*(y2 - y1)
theorem Leng.call{a1 a2 a3:Option Addr}{c1 c2 c3 nb nh:Nat}{js:List S2}{bs:List B6}{hs:List H3}{b:B6}{q:Rat}{w:World}(h:Leng js b q)(hg:Glob w)(hj:ARow S2.cells w a1 c1 js)(hl:js.length≤10)(hz:FrSized js bs hs):
 Calls Tryz.prog 23 #[.agg #[.slice a1 js.length c1,.slice a2 nb c2,.slice a3 nh c3],.agg #[.int .i64 b.a,.int .i64 b.b,.string b.c,.string b.e,.string b.l,.string b.m]] w (Makes w (FF q (32*1048576+16))):=by
 obtain⟨_,A,B,s,t,x1,y1,x2,y2,hA,hB,hs,ht,q1,q2,q3,q4,rfl⟩:=h;have zs:=hz.j s (List.mem_of_getElem? hs);have zt:=hz.j t (List.mem_of_getElem? ht);exact Qn9 a1 a2 a3 c1 c2 c3 nb nh A B 1048576 js b s t w hg hj hA hB hs ht hl zs.1 zs.2 zt.1 zt.2 (by decide) q1 q2 q3 q4
theorem Qhp{rs:List Nat}{n k r:Nat}(hk:k<n)(hl:rs.length=k):(floatsV (rs++List.replicate (n - k) 0)).set k (.float .f64 r)=floatsV (rs++ [r]++List.replicate (n - (k+1)) 0):=by
 unfold floatsV;subst hl;rw[←List.map_set,List.set_append_right _ _ (Nat.le_refl _),Nat.sub_self,show n - rs.length=(n - (rs.length+1))+1 by omega,List.replicate_succ,List.set_cons_zero,List.append_assoc];rfl
def FlSays(w:World)(n:Nat)(L:Nat→Rat)(e:Ending)(w':World):Prop:=∃(g:Nat) (rs:List Nat),e=.returned (.tuple #[.slice (some ⟨g,0,none⟩) n n,.agg #[.int .i64 0,.int .i64 0]])∧rs.length=n∧SB w' g 41 (floatsV rs).toArray∧(∀i r,rs[i]?=some r→NR (L i) (.float .f64 r) w')∧Below w.heap.size w w'
set_option maxRecDepth 100000 in
set_option maxHeartbeats 2000000 in
theorem Qob(a1 a2 a3:Option Addr)(c1 c2 c3:Nat)(js:List S2)(bs:List B6)(hs:List H3)(L:Nat→Rat)(w:World)(hg:Glob w)(hf:FrRow w a1 a2 a3 c1 c2 c3 js bs hs)(hz:FrSized js bs hs)(hok:FrameFault js bs hs 0 0)
 (hl:js.length≤10) (hbl:bs.length≤1000000) (hL:∀i b,bs[i]?=some b→Leng js b (L i)):
 Calls Tryz.prog 4 #[.agg #[.slice a1 js.length c1,.slice a2 bs.length c2,.slice a3 hs.length c3]] w (FlSays w bs.length L):=by
 obtain⟨V,hV⟩:∃V,(w.alloc (.cells #[.slice a1 js.length c1,.slice a2 bs.length c2,.slice a3 hs.length c3] 26)).alloc (.cells #[.int .i64 0,.int .i64 0] 31)=V:=⟨_,rfl⟩;have hbv:Below w.heap.size w V:=by rw[←hV];exact Below.new2 w _ _
 have HS0:Hid (SB V w.heap.size 26 #[.slice a1 js.length c1,.slice a2 bs.length c2,.slice a3 hs.length c3]):=Hi (by
  rw[←hV]
  exact(SB.new w _ _).below ((Below.refl _ _).alloc (Nat.le_refl _) _) (by rw[World.size_alloc];omega))
 have HS1:Hid (SB V (w.heap.size+1) 31 #[.int .i64 0,.int .i64 0]):=Hi (by rw[←hV];exact SB.new2 w _ _ _ _);have HC:=Hi (Qcw a1 a2 a3 c1 c2 c3 js bs hs V (hg.below hbv) (hf.below hbv) hz);have HBV:=Hi hbv;have HVE:=Hi hV;have HG:=Hi (hg.below hbv);have HF:=Hi (hf.below hbv);have HZ:=Hi hz;have HOK:=Hi hok;have HLJ:=Hi hl;have HL:=Hi hL;clear hg hf hz hV hbv hok hl hL;go_enter Tryz.func4,Tryz.ntmps4;go_wp2_with fail;rw[HVE.out];refine HC.out.mono ?_;rintro e w1 ⟨c,at_,rfl,hff,hb⟩;obtain⟨rfl,rfl⟩:=hff.inj HOK.out;have HB1:=Hi hb;obtain⟨V1,hV1⟩:∃V1,w1.alloc (.cells #[.int .i64 0,.int .i64 0] 31)=V1:=⟨_,rfl⟩;have hb1:Below w1.heap.size w1 V1:=by rw[←hV1];exact(Below.refl _ _).alloc (Nat.le_refl _) _
 have HBU:=Hi (HB1.out.trans (hb1.mono HB1.out.size));have k1:=(HS0.out.below HBU.out HS0.out.lt).cell 1;simp only[List.getElem?_toArray,List.getElem?_cons_zero,List.getElem?_cons_succ] at k1;have hmk:=Qho bs.length (by omega) V1;have hb2:Below V1.heap.size V1 (V1.alloc (.cells (floatsV (List.replicate bs.length 0)).toArray 41)):=(Below.refl _ _).alloc (Nat.le_refl _) _;have k2:=((HS0.out.below HBU.out HS0.out.lt).below hb2 (Nat.lt_of_lt_of_le HS0.out.lt HBU.out.size)).cell 1;simp only[List.getElem?_toArray,List.getElem?_cons_zero,List.getElem?_cons_succ] at k2;obtain⟨W,hW⟩:∃W,V1.alloc (.cells (floatsV (List.replicate bs.length 0)).toArray 41)=W:=⟨_,rfl⟩;have HSF:Hid (SB W V1.heap.size 41 (floatsV (List.replicate bs.length 0)).toArray):=Hi (by rw[←hW];exact SB.new V1 _ _);have HBW:Hid (Below V.heap.size V W):=Hi (by rw[←hW];exact HBU.out.trans (hb2.mono HBU.out.size));have HWE:=Hi hW
 have HG1:Hid (w.heap.size+1<V1.heap.size∧V.heap.size≤V1.heap.size):=Hi ⟨Nat.lt_of_lt_of_le HS1.out.lt HBU.out.size,HBU.out.size⟩;obtain⟨G,hG⟩:∃G,V1.heap.size=G:=⟨_,rfl⟩;rw[hG] at HSF HG1 hmk;rw[hW] at k2 hmk;rw[←hV1] at k1 hmk;have HV1:=Hi hV1;clear hb hb1 hb2 hV1 hff HC HVE hW hG HWE HV1;go_wp2_with fail;go_loopw [21] (fun iv wr=>∃(k:Nat) (rs:List Nat),k≤bs.length∧iv=.int .i64 k∧rs.length=k∧SB wr G 41 (floatsV (rs++List.replicate (bs.length - k) 0)).toArray∧(∀i r,rs[i]?=some r→NR (L i) (.float .f64 r) wr)∧Below V.heap.size V wr) (fun iv _=>bs.length - (intOf iv).toNat)
 case atStart=>exact⟨0,[],by omega,rfl,rfl,HSF.out,fun i r h=>by simp at h,HBW.out⟩
 case round=>
  obtain⟨k,rs,hk,rfl,hrl,hsf,hnr,hbe⟩:=hrel;have HRS:=Hi (And.intro hrl (And.intro hsf (And.intro hnr hbe)));clear hrl hsf hnr hbe;by_cases hlt:k<bs.length
  ·
   obtain⟨b,hbk⟩:∃b,bs[k]?=some b:=⟨bs[k],List.getElem?_eq_getElem hlt⟩;obtain⟨bb,bo,rfl,hbb,d0,d1,d2,d3,d4,d5⟩:=(HF.out.b.below HRS.out.2.2.2).bar hbk;have HBK:=Hi hbk;have q1:((k:Int)<(bs.length:Int)):=by omega
   clear hbk;obtain⟨X,hX⟩:∃X,wr.alloc (.cells #[.int .i64 b.a,.int .i64 b.b,.string b.c,.string b.e,.string b.l,.string b.m] 39)=X:=⟨_,rfl⟩;have hbX:Below wr.heap.size wr X:=by rw[←hX];exact(Below.refl _ _).alloc (Nat.le_refl _) _
   have HBX:=Hi (HRS.out.2.2.2.trans (hbX.mono HRS.out.2.2.2.size));have HSX:=Hi (HRS.out.2.1.below hbX HRS.out.2.1.lt);have f0:=(HS0.out.below HBX.out HS0.out.lt).cell 0;have f1:=(HS0.out.below HBX.out HS0.out.lt).cell 1;have f2:=(HS0.out.below HBX.out HS0.out.lt).cell 2;simp only[List.getElem?_toArray,List.getElem?_cons_zero,List.getElem?_cons_succ] at f0 f1 f2;rw[←hX] at f0 f1 f2;have HXE:=Hi hX;clear hX hbX;go_wp2_with fail;rw[HXE.out];refine Makes.use ((HL.out k b HBK.out).call (HG.out.below HBX.out) (HF.out.j.below HBX.out) HLJ.out HZ.out) ?_;intro v1 x1 hbx1 hv1;have HV1:=Hi hv1;have HBX1:=Hi (HBX.out.trans (hbx1.mono HBX.out.size));have HSX1:=Hi (HSX.out.below hbx1 HSX.out.lt);clear hv1 hbx1 f0 f1 f2 HXE d0 d1 d2 d3 d4 d5 HSX HBX;go_wp2_with fail;refine Makes.use (FF.root HV1.out (HL.out k b HBK.out).1 (by decide)) ?_;rintro v2 x2 hbx2 ⟨r,rfl,hr1,hr2⟩
   have HBX2:=Hi (HBX1.out.trans (hbx2.mono HBX1.out.size));have hsx:=HSX1.out.below hbx2 HSX1.out.lt;have g0:=hsx.floatAt k;have g1:=hsx.free k;rw[List.getElem?_append_right (by have:=HRS.out.1;omega),List.getElem?_replicate,if_pos (by have:=HRS.out.1;omega),Option.map_some] at g0;have HSX2:=Hi hsx;have HR:=Hi (And.intro hr1 hr2);clear hsx hbx2 hr1 hr2 HSX1 HBX1 HV1;have g2:=run_store Tryz.prog x2 ⟨G,k,none⟩ (.float .f64 r) .plain rfl;go_wp2_with fail;refine⟨⟨k+1,rs++ [r],by omega,by go_num,by rw[List.length_append];have:=HRS.out.1;simp;omega,?_,?_,Only.fresh HBX2.out ((Only.refl G x2).setCell k _) HG1.out.2⟩,?_⟩
   ·
    have h1:=HSX2.out.set k (.float .f64 r);rw[List.setIfInBounds_toArray,Qhp hlt HRS.out.1] at h1;exact h1
   ·
    intro i r' hi;rcases Nat.lt_or_ge i rs.length with h|h
    · rw[List.getElem?_append_left h] at hi
      exact HRS.out.2.2.1 i r' hi
    ·
     rw[List.getElem?_append_right h] at hi;have e1:r'=r:=by simpa using List.mem_of_getElem? hi
     have e2:i=k:=by
      have:=(List.getElem?_eq_some_iff.1 hi).1;have:=HRS.out.1;simp at*;omega
     subst e1 e2;exact⟨r',rfl,HR.out.1,HR.out.2⟩
   · simp[intOf]
     omega
  ·
   have q1:¬((k:Int)<(bs.length:Int)):=by omega
   have hs1:=HS1.out.below HRS.out.2.2.2 HS1.out.lt;have c0:=hs1.cell 0;have c1:=hs1.cell 1;have y0:=hs1.free 0;have y1:=hs1.free 1;simp only[List.getElem?_toArray,List.getElem?_cons_zero,List.getElem?_cons_succ] at c0 c1;have HS9:=Hi hs1;clear hs1;go_wp2;refine bodyPost_ret (Qcv rfl _ _ (w.heap.size+1) 31 #[.int .i64 0,.int .i64 0] (0,0) _ rfl ((HS9.out.set 0 _).set 1 _) Tryz.underlying31 rfl Tryz.faultInfo) rfl ?_;have ho:=(((Only.refl (w.heap.size+1) wr).setCell 0 (.int .i64 0)).setCell 1 (.int .i64 0));have e:k=bs.length:=by omega
   have h2:=HRS.out.2.1;rw[e,Nat.sub_self,List.replicate_zero,List.append_nil] at h2;refine⟨G,rs,rfl,by rw[HRS.out.1,e],h2.only ho (by have:=HG1.out.1;omega),HRS.out.2.2.1,Only.fresh (HBV.out.trans (HRS.out.2.2.2.mono HBV.out.size)) ho (by omega)⟩
def TRow(w:World)(a:Option Addr)(l:List ByteArray):Prop:=∀(i:Nat) (s:ByteArray),l[i]?=some s→∃b off,a=some ⟨b,off,none⟩∧b<w.heap.size∧w.cell? ⟨b,off+i,none⟩=some (.string s)
theorem TRow.below{w w':World}{a:Option Addr}{l:List ByteArray}(h:TRow w a l)(hb:Below w.heap.size w w'):TRow w' a l:=fun i s hi=>by
 obtain⟨b,off,e,hl,hc⟩:=h i s hi;exact⟨b,off,e,Nat.lt_of_lt_of_le hl hb.size,(hb.cell (p:=⟨b,off+i,none⟩) hl).trans hc⟩
theorem PU.stays(p q:Rat):Stays (PU p q):=fun _ _ _ _ h=>h
theorem PU.float{p q:Rat}{v:Value}{w:World}(h:PU p q v w):∃r,v=.float .f64 r:=by
 rcases Int.lt_trichotomy p.num 0 with h1|h1|h1
 · obtain⟨r,e,_⟩:=h.2.2 h1
   exact⟨_,e⟩
 · exact⟨_,h.1 h1⟩
 · obtain⟨r,e,_⟩:=h.2.1 h1
   exact⟨_,e⟩
def PlSays(w:World)(n:Nat)(S L:Nat→Rat)(e:Ending)(w':World):Prop:=∃(g:Nat) (rs:List Nat),e=.returned (.tuple #[.slice (some ⟨g,0,none⟩) n n,.agg #[.int .i64 0,.int .i64 0]])∧rs.length=n∧SB w' g 41 (floatsV rs).toArray∧(∀i r,rs[i]?=some r→PU (S i) (L i) (.float .f64 r) w')∧Below w.heap.size w w'
set_option maxRecDepth 100000 in
set_option maxHeartbeats 2000000 in
theorem Qoc(a1 a2 a3:Option Addr)(c1 c2 c3:Nat)(js:List S2)(bs:List B6)(hs:List H3)(L S:Nat→Rat)(aq:Option Addr)(cq:Nat)(ts:List ByteArray)(w:World)(hg:Glob w)(hf:FrRow w a1 a2 a3 c1 c2 c3 js bs hs)(hz:FrSized js bs hs)(hok:FrameFault js bs hs 0 0)
 (hl:js.length≤10) (hbl:bs.length≤1000000) (hL:∀i b,bs[i]?=some b→Leng js b (L i)) (hT:TRow w aq ts) (htl:ts.length=bs.length) (hQ:∀i s,ts[i]?=some s→QOf s.data.toList (S i)∧s.size≤1048576):
 Calls Tryz.prog 9 #[.agg #[.slice a1 js.length c1,.slice a2 bs.length c2,.slice a3 hs.length c3],.slice aq ts.length cq] w (PlSays w bs.length S L):=by
 obtain⟨V,hV⟩:∃V,(w.alloc (.cells #[.slice a1 js.length c1,.slice a2 bs.length c2,.slice a3 hs.length c3] 26)).alloc (.cells #[.int .i64 0,.int .i64 0] 31)=V:=⟨_,rfl⟩;have hbv:Below w.heap.size w V:=by rw[←hV];exact Below.new2 w _ _
 have HS0:Hid (SB V w.heap.size 26 #[.slice a1 js.length c1,.slice a2 bs.length c2,.slice a3 hs.length c3]):=Hi (by
  rw[←hV]
  exact(SB.new w _ _).below ((Below.refl _ _).alloc (Nat.le_refl _) _) (by rw[World.size_alloc];omega))
 have HS1:Hid (SB V (w.heap.size+1) 31 #[.int .i64 0,.int .i64 0]):=Hi (by rw[←hV];exact SB.new2 w _ _ _ _);have HC:=Hi (Qcw a1 a2 a3 c1 c2 c3 js bs hs V (hg.below hbv) (hf.below hbv) hz);have HBV:=Hi hbv;have HVE:=Hi hV;have HG:=Hi (hg.below hbv);have HF:=Hi (hf.below hbv);have HZ:=Hi hz;have HOK:=Hi hok;have HLJ:=Hi hl;have HL:=Hi hL;have HT:=Hi (hT.below hbv);have HQ:=Hi hQ;rw[htl];have HTL:=Hi htl;clear hg hf hz hV hbv hok hl hL hT hQ htl;go_enter Tryz.func9,Tryz.ntmps9;go_wp2_with fail;rw[HVE.out];refine HC.out.mono ?_;rintro e w1 ⟨c,at_,rfl,hff,hb⟩;obtain⟨rfl,rfl⟩:=hff.inj HOK.out;have HB1:=Hi hb;obtain⟨V1,hV1⟩:∃V1,w1.alloc (.cells #[.int .i64 0,.int .i64 0] 31)=V1:=⟨_,rfl⟩;have hb1:Below w1.heap.size w1 V1:=by rw[←hV1];exact(Below.refl _ _).alloc (Nat.le_refl _) _
 have HBU:=Hi (HB1.out.trans (hb1.mono HB1.out.size));have k1:=(HS0.out.below HBU.out HS0.out.lt).cell 1;simp only[List.getElem?_toArray,List.getElem?_cons_zero,List.getElem?_cons_succ] at k1;have hmk:=Qho bs.length (by omega) V1;have hb2:Below V1.heap.size V1 (V1.alloc (.cells (floatsV (List.replicate bs.length 0)).toArray 41)):=(Below.refl _ _).alloc (Nat.le_refl _) _;have k2:=((HS0.out.below HBU.out HS0.out.lt).below hb2 (Nat.lt_of_lt_of_le HS0.out.lt HBU.out.size)).cell 1;simp only[List.getElem?_toArray,List.getElem?_cons_zero,List.getElem?_cons_succ] at k2;obtain⟨W,hW⟩:∃W,V1.alloc (.cells (floatsV (List.replicate bs.length 0)).toArray 41)=W:=⟨_,rfl⟩;have HSF:Hid (SB W V1.heap.size 41 (floatsV (List.replicate bs.length 0)).toArray):=Hi (by rw[←hW];exact SB.new V1 _ _);have HBW:Hid (Below V.heap.size V W):=Hi (by rw[←hW];exact HBU.out.trans (hb2.mono HBU.out.size));have HWE:=Hi hW
 have HG1:Hid (w.heap.size+1<V1.heap.size∧V.heap.size≤V1.heap.size):=Hi ⟨Nat.lt_of_lt_of_le HS1.out.lt HBU.out.size,HBU.out.size⟩;obtain⟨G,hG⟩:∃G,V1.heap.size=G:=⟨_,rfl⟩;rw[hG] at HSF HG1 hmk;rw[hW] at k2 hmk;rw[←hV1] at k1 hmk;have HV1:=Hi hV1;clear hb hb1 hb2 hV1 hff HC HVE hW hG HWE HV1;go_wp2_with fail;go_loopw [32] (fun iv wr=>∃(k:Nat) (rs:List Nat),k≤bs.length∧iv=.int .i64 k∧rs.length=k∧SB wr G 41 (floatsV (rs++List.replicate (bs.length - k) 0)).toArray∧(∀i r,rs[i]?=some r→PU (S i) (L i) (.float .f64 r) wr)∧Below V.heap.size V wr) (fun iv _=>bs.length - (intOf iv).toNat)
 case atStart=>exact⟨0,[],by omega,rfl,rfl,HSF.out,fun i r h=>by simp at h,HBW.out⟩
 case round=>
  obtain⟨k,rs,hk,rfl,hrl,hsf,hnr,hbe⟩:=hrel;have HRS:=Hi (And.intro hrl (And.intro hsf (And.intro hnr hbe)));clear hrl hsf hnr hbe;by_cases hlt:k<bs.length
  ·
   obtain⟨b,hbk⟩:∃b,bs[k]?=some b:=⟨bs[k],List.getElem?_eq_getElem hlt⟩;obtain⟨bb,bo,rfl,hbb,d0,d1,d2,d3,d4,d5⟩:=(HF.out.b.below HRS.out.2.2.2).bar hbk;have HBK:=Hi hbk;have q1:((k:Int)<(bs.length:Int)):=by omega
   clear hbk;obtain⟨sq,hsq⟩:∃sq,ts[k]?=some sq:=⟨ts[k]'(by have:=HTL.out;omega),List.getElem?_eq_getElem (by have:=HTL.out;omega)⟩;obtain⟨qb,qo,rfl,hqb,hcq⟩:=HT.out k sq hsq;have HCQ:=Hi hcq;have HSQ:=Hi (HQ.out k sq hsq);clear hsq hcq;obtain⟨X,hX⟩:∃X,wr.alloc (.cells #[.int .i64 b.a,.int .i64 b.b,.string b.c,.string b.e,.string b.l,.string b.m] 39)=X:=⟨_,rfl⟩;have hbX:Below wr.heap.size wr X:=by rw[←hX];exact(Below.refl _ _).alloc (Nat.le_refl _) _
   have HBX:=Hi (HRS.out.2.2.2.trans (hbX.mono HRS.out.2.2.2.size));have HSX:=Hi (HRS.out.2.1.below hbX HRS.out.2.1.lt);have HXE:=Hi hX;clear hX hbX;go_wp2_with fail;rw[HXE.out];have hdr:Below X.heap.size X X.drew:=(Below.refl _ _).drew;have HSB:Hid (SB X.drew wr.heap.size 39 #[.int .i64 b.a,.int .i64 b.b,.string b.c,.string b.e,.string b.l,.string b.m]):=Hi (by
    have h1:SB X wr.heap.size 39 #[.int .i64 b.a,.int .i64 b.b,.string b.c,.string b.e,.string b.l,.string b.m]:=by rw[←HXE.out];exact SB.new wr _ _
    exact h1.below hdr h1.lt)
   have HE0:=Hi (HSB.out.cell 0);have HE1:=Hi (HSB.out.cell 1);have HE2:=Hi (HSB.out.cell 2);have HE3:=Hi (HSB.out.cell 3);have HE4:=Hi (HSB.out.cell 4);have HE5:=Hi (HSB.out.cell 5);have HF0:=Hi (HS0.out.cell 0);have HF1:=Hi (HS0.out.cell 1);have HF2:=Hi (HS0.out.cell 2);simp only[List.getElem?_toArray,List.getElem?_cons_zero,List.getElem?_cons_succ] at HE0 HE1 HE2 HE3 HE4 HE5 HF0 HF1 HF2;have HRL:=Hi HSB.out.lt;have HFL:=Hi HS0.out.lt;have HBY:=Hi (HBX.out.trans (hdr.mono HBX.out.size));have HSY:=Hi (HSX.out.below hdr HSX.out.lt);clear hdr HXE HSB HS0 HSX HBX d0 d1 d2 d3 d4 d5;generalize hB0:w.heap.size=B0 at*;generalize hR0:wr.heap.size=R0 at*;have HB0:=Hi hB0;have HR0:=Hi hR0;clear hB0 hR0;refine RegG.bg 12 (fun j=>some (37+j)) ?_;refine RegG.pu (c:=?_) [] (fun w hb=>?_) ?_;rotate_left
   ·
    intro K hK;skip;go_simp;exact hK
   refine RegG.pu (c:=?_) [] (fun w hb=>?_) ?_;rotate_left
   ·
    intro K hK;skip;go_simp;exact hK
   refine RegG.pu (c:=?_) [] (fun w hb=>?_) ?_;rotate_left
   ·
    intro K hK;skip;go_simp;exact hK
   refine RegG.pu (c:=?_) [] (fun w hb=>?_) ?_;rotate_left
   ·
    intro K hK;skip;go_simp;exact hK
   refine RegG.pu (c:=?_) [2,3] (fun w hb=>?_) ?_;rotate_left
   ·
    intro K hK;skip;go_simp;exact hK
   refine RegG.pu (c:=?_) [4] (fun w hb=>?_) ?_;rotate_left
   ·
    intro K hK;have cx:=(hb.cell (p:=⟨qb,qo+k,none⟩) (Nat.lt_of_lt_of_le hqb HBY.out.size)).trans ((HBY.out.cell (p:=⟨qb,qo+k,none⟩) hqb).trans HCQ.out);go_simp;exact hK
   refine RegG.ca (φ:=FF (S k) (4*1048576+1)) [5] (FF.stays _ _) (fun w hb=>?_) ?_
   ·
    skip;intro K hK;go_simp;exact Makes.use (FF.of (HG.out.below (HBY.out.trans (hb.mono HBY.out.size))) HSQ.out.1 HSQ.out.2 (by decide) (Nat.le_refl _)) hK
   refine RegG.pu (c:=?_) [] (fun w hb=>?_) ?_;rotate_left
   ·
    intro K hK;have hz:=HBY.out.trans (hb.mono HBY.out.size);have f0:=(hz.cell (p:=⟨B0,0,none⟩) HFL.out).trans HF0.out;have f1:=(hz.cell (p:=⟨B0,1,none⟩) HFL.out).trans HF1.out;have f2:=(hz.cell (p:=⟨B0,2,none⟩) HFL.out).trans HF2.out;go_simp;exact hK
   refine RegG.pu (c:=?_) [] (fun w hb=>?_) ?_;rotate_left
   ·
    intro K hK;have e0:=(hb.cell (p:=⟨R0,0,none⟩) HRL.out).trans HE0.out;have e1:=(hb.cell (p:=⟨R0,1,none⟩) HRL.out).trans HE1.out;have e2:=(hb.cell (p:=⟨R0,2,none⟩) HRL.out).trans HE2.out;have e3:=(hb.cell (p:=⟨R0,3,none⟩) HRL.out).trans HE3.out;have e4:=(hb.cell (p:=⟨R0,4,none⟩) HRL.out).trans HE4.out;have e5:=(hb.cell (p:=⟨R0,5,none⟩) HRL.out).trans HE5.out;go_simp;exact hK
   refine RegG.ca (φ:=FF (L k) (32*1048576+16)) [7,8] (FF.stays _ _) (fun w hb=>?_) ?_
   ·
    skip;intro K hK;go_simp;exact Makes.use ((HL.out k b HBK.out).call (HG.out.below (HBY.out.trans (hb.mono HBY.out.size))) (HF.out.j.below (HBY.out.trans (hb.mono HBY.out.size))) HLJ.out HZ.out) hK
   refine RegG.ca (φ:=PU (S k) (L k)) [6,9] (PU.stays _ _) (fun w hb=>?_) ?_
   ·
    intro v6 h6 v9 h9;intro K hK;go_simp;exact Makes.use (Qn8 h6 h9 (by decide) (HL.out k b HBK.out).1) hK
   refine RegG.pu (c:=?_) [0,1] (fun w hb=>?_) ?_;rotate_left
   ·
    intro K hK;skip;go_simp;exact hK
   refine RegG.last (by simp only[List.nil_append,List.cons_append,List.length_append,List.length_cons,List.length_nil,Nat.reduceAdd]) (by rfl) (by rfl) (by kernel_rfl) (fun x2 hb=>?_);simp only[FinG,List.nil_append,List.cons_append,Qcb,Act.put,List.setIfInBounds_toArray,List.set_cons_zero,List.set_cons_succ,Nat.reduceAdd,Nat.reduceBEq,cond_true,cond_false];intro v6 _ v9 _ v10 h10 K hK;obtain⟨r,rfl⟩:=h10.float;have hbx2:=HBY.out.trans (hb.mono HBY.out.size);have hsx:=HSY.out.below hb HSY.out.lt;have g0:=hsx.floatAt k;have g1:=hsx.free k;rw[List.getElem?_append_right (by have:=HRS.out.1;omega),List.getElem?_replicate,if_pos (by have:=HRS.out.1;omega),Option.map_some] at g0;have HSX2:=Hi hsx;have HBX2:=Hi hbx2;have HR:=Hi h10;have g2:=run_store Tryz.prog x2 ⟨G,k,none⟩ (.float .f64 r) .plain rfl;clear hsx hbx2 hb h10;go_simp;refine hK _ _ ?_;clear hK;have hB0:=HB0.out;subst hB0
   go_wp2_with fail;refine⟨⟨k+1,rs++ [r],by omega,by go_num,by rw[List.length_append];have:=HRS.out.1;simp;omega,?_,?_,Only.fresh HBX2.out ((Only.refl G x2).setCell k _) HG1.out.2⟩,?_⟩
   ·
    have h1:=HSX2.out.set k (.float .f64 r);rw[List.setIfInBounds_toArray,Qhp hlt HRS.out.1] at h1;exact h1
   ·
    intro i r' hi;rcases Nat.lt_or_ge i rs.length with h|h
    · rw[List.getElem?_append_left h] at hi
      exact HRS.out.2.2.1 i r' hi
    ·
     rw[List.getElem?_append_right h] at hi;have e1:r'=r:=by simpa using List.mem_of_getElem? hi
     have e2:i=k:=by
      have:=(List.getElem?_eq_some_iff.1 hi).1;have:=HRS.out.1;simp at*;omega
     subst e1 e2;exact HR.out
   · simp[intOf]
     omega
  ·
   have q1:¬((k:Int)<(bs.length:Int)):=by omega
   have hs1:=HS1.out.below HRS.out.2.2.2 HS1.out.lt;have c0:=hs1.cell 0;have c1:=hs1.cell 1;have y0:=hs1.free 0;have y1:=hs1.free 1;simp only[List.getElem?_toArray,List.getElem?_cons_zero,List.getElem?_cons_succ] at c0 c1;have HS9:=Hi hs1;clear hs1;go_wp2;refine bodyPost_ret (Qcv rfl _ _ (w.heap.size+1) 31 #[.int .i64 0,.int .i64 0] (0,0) _ rfl ((HS9.out.set 0 _).set 1 _) Tryz.underlying31 rfl Tryz.faultInfo) rfl ?_;have ho:=(((Only.refl (w.heap.size+1) wr).setCell 0 (.int .i64 0)).setCell 1 (.int .i64 0));have e:k=bs.length:=by omega
   have h2:=HRS.out.2.1;rw[e,Nat.sub_self,List.replicate_zero,List.append_nil] at h2;refine⟨G,rs,rfl,by rw[HRS.out.1,e],h2.only ho (by have:=HG1.out.1;omega),HRS.out.2.2.1,Only.fresh (HBV.out.trans (HRS.out.2.2.2.mono HBV.out.size)) ho (by omega)⟩
end Go.Proofs.YtodfmpjhcmapmaaGreatDoor
