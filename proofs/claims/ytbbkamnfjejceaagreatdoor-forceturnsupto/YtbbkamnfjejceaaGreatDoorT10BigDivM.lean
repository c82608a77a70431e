/- rafterbig's div, its long way. -/
import Derived.Test.YtbbkamnfjejceaaGreatDoorT09BigDivL1
namespace Go.Proofs.YtbbkamnfjejceaaGreatDoor
open Go.RowKit
set_option linter.unusedVariables false
theorem Blk.setRow{k:IntKind}{t:TypeId}{w:World}{g:Nat}{l:List Nat}(h:Blk k t w g l)(m:List Nat):Blk k t (w.setRow g (wordCells k m)) g m:=setRow_heap w g _ _ t _ h
theorem Qhm(X V n M k:Nat)(xl v:List Nat)(hx:Num 4294967296 xl X)(hXb:X<4294967296 ^ (M+n+2))(hv:Num 4294967296 v V)(hvl:v.length=n+2)(hk:xl.length+k=M+n+3):
 DivInv X V n M (M+1) (xl++zeros k) (zeros (M+1)):=by
 refine⟨by rw[List.length_append,Qag];exact hk,Qag _,hx.small.append (Qam _ _ (by decide)),Qam _ _ (by decide),?_,?_⟩
 · rw[Qcb,Qcr,hx.eq,List.drop_of_length_le (by rw[Qag];exact Nat.le_refl _),Qca,Nat.mul_zero,Nat.mul_zero]
   rfl
 ·
  rw[Qcb,Qcr,hx.eq,Nat.mul_zero,Nat.add_zero];have e3:=hv.trim.pow_le (B:=4294967296) (by rw[hvl];exact Nat.succ_pos _);rw[hv.eq,hvl] at e3;have e4:=Nat.mul_le_mul_left (4294967296 ^ (M+1)) e3;rw[←Nat.pow_add,show M+1+(n+2 - 1)=M+n+2 from by omega] at e4;exact Nat.lt_of_lt_of_le hXb e4
theorem Qhn(w:World)(g n cx bx ox:Nat)(xl:List Nat)(hB:Blk .u32 216 w g (zeros n))(hx:Row .u32 w (some ⟨bx,ox,none⟩) cx xl)(hn:xl.length≤n):
 Sem.run Tryz.prog (Builtin.copy_ #[94,94] 3 #[.slice (some ⟨g,0,none⟩) n n,.slice (some ⟨bx,ox,none⟩) xl.length cx]) w=.ok (.int .i64 xl.length) (w.setRow g (wordCells .u32 (xl++zeros (n - xl.length)))):=by
 have h:=run_copy_row (P:=Tryz.prog) w 94 94 3 216 g 0 n n ⟨bx,ox,none⟩ xl.length cx (wordCells .u32 (zeros n)) 216 (xl.map (fun n:Nat=>Value.int .u32 n)) Tryz.underlying94 (by kernel_rfl) hB
  (by rw[List.length_map];exact(Nat.min_eq_left hn).symm) ?_ (by simp[wordCells,Qag];omega) ?_
 ·
  have e:(List.take 0 (wordCells .u32 (zeros n)).toList++xl.map (fun n:Nat=>Value.int .u32 n)++List.drop (0+(xl.map (fun n:Nat=>Value.int .u32 n)).length) (wordCells .u32 (zeros n)).toList).toArray=wordCells .u32 (xl++zeros (n - xl.length)):=by
   unfold wordCells zeros;simp
  rw[e] at h;rw[List.length_map] at h;exact h
 ·
  intro j u hj;obtain⟨hlt,hu⟩:=List.getElem?_eq_some_iff.1 hj;have hlt':j<xl.length:=by simpa using hlt
  obtain⟨b',off',e1,_,hc⟩:=hx.cell j hlt';obtain⟨rfl,rfl⟩:bx=b'∧ox=off':=by simpa using e1
  rw[Qc3,hc,←hu];simp[hlt']
 · intro u hu;obtain⟨n,_,rfl⟩:=List.mem_map.1 hu;rfl
set_option maxRecDepth 100000 in
set_option maxHeartbeats 4000000 in
theorem Qho(a1 a2:Option Addr)(c1 c2:Nat)(l m:List Nat)(x y:Nat)(w:World)(h1:U32 w a1 c1 l x)(h2:U32 w a2 c2 m y)(hy:0<y)(hxy:y≤x)(hl:2<l.length)(hm:1<m.length)(hlb:l.length<1099511627770):
 Calls Tryz.prog 172 #[.slice a1 l.length c1,.slice a2 m.length c2] w (DivOk w x y):=by
 have s2:=h2.short;have hml:m.length≤l.length:=by
  apply Classical.byContradiction;intro hc;have:=Qao (B:=4294967296) (by omega) h1.num.small h2.num.trim (by omega);rw[h1.num.eq,h2.num.eq] at this;omega
 have q1:((m.length:Int) == 0)=false:=by rw[beq_eq_false_iff_ne];omega
 have q2:((m.length:Int) == 1)=false:=by rw[beq_eq_false_iff_ne];omega
 have hc:¬cmp3 x y<0:=by rw[Qap];omega
 have hzb:nb y≤32*m.length:=Num.nb_le (q:=32) h2.num;obtain⟨z,hz⟩:∃z,nb y=z:=⟨_,rfl⟩;have hz1:1≤z:=by rw[←hz];exact Qcc hy
 obtain⟨s,hs⟩:∃s,31 - (z - 1) % 32=s:=⟨_,rfl⟩;have hs31:s<32:=by omega
 have hs':32 - ((z:Int) - 1) % 32 - 1=(s:Int):=by omega
 rw[hz] at hzb;have HZ:Hid (nb y=z):=hz;clear hz hs;go_enter Tryz.func172,Tryz.ntmps172;go_wp2_with fail;refine(Qbd a1 a2 c1 c2 l m x y w h1 h2).mono ?_;rintro e w1 ⟨rfl,hb⟩;replace h1:=h1.below hb;replace h2:=h2.below hb;go_wp2_with fail;refine(Qhq a2 c2 m y w1 h2).mono ?_;rintro e w2 ⟨rfl,rfl⟩;rw[HZ.out];clear hc;go_wp2_with fail;refine(Qed a2 c2 s m y w2 h2 hs31 (by omega) (by omega)).mono ?_;rintro e w3 ⟨⟨av,cv,v,rfl,hv⟩,hb3⟩;replace h1:=h1.below hb3;have hpow:=Qc5 hs31;have hpos:0<2 ^ s:=Nat.pow_pos (by omega);obtain⟨V,hV⟩:∃V,y*2 ^ s=V:=⟨_,rfl⟩;obtain⟨X,hX⟩:∃X,x*2 ^ s=X:=⟨_,rfl⟩;rw[hV] at hv;have hyV:y≤V:=by rw[←hV];exact Nat.le_mul_of_pos_right _ hpos
 have hVX:V≤X:=by rw[←hV,←hX];exact Nat.mul_le_mul_right _ hxy
 have hXb:X<4294967296 ^ (l.length+1):=by
  have e1:=Qab (B:=4294967296) (by omega) h1.num.small;rw[h1.num.eq] at e1;rw[←hX,Nat.pow_succ];exact Nat.mul_lt_mul'' e1 (by omega)
 have hvl2:2≤v.length:=by
  apply Classical.byContradiction;intro hn;have e1:=Qab (B:=4294967296) (by omega) hv.num.small;have e2:=Qbj (B:=4294967296) (by omega) (show v.length≤1 by omega);have e3:=h2.num.trim.pow_le (B:=4294967296) (by omega);have e4:=Qbj (B:=4294967296) (by omega) (show 1≤m.length - 1 by omega);rw[hv.num.eq] at e1;rw[h2.num.eq] at e3;omega
 have hvll:v.length≤l.length+1:=hv.num.length_le_of_lt (by omega) (by omega);have HV:Hid (y*2 ^ s=V):=hV;have HX:Hid (x*2 ^ s=X):=hX;have HXB:Hid (X<4294967296 ^ (l.length+1)):=hXb;clear hV hX hXb hpow hpos hyV;have hmk:∀w,(Instr.makeSlice 94 (.int .i64 ((l.length:Int)+2)) (.int .i64 ((l.length:Int)+2))).run Tryz.prog w=.ok (.slice (some ⟨w.heap.size,0,none⟩) (l.length+2) (l.length+2)) (w.alloc (.cells (wordCells .u32 (zeros (l.length+2))) 216)):=
  fun w=>Qaz _ (l.length+2) (by omega) (by omega) w
 go_wp2_with fail;have hba:Below w3.heap.size w3 (w3.alloc (.cells (wordCells .u32 (zeros (l.length+2))) 216)):=(Below.refl _ _).alloc (Nat.le_refl _) _;refine(Qed a1 c1 s l x _ (h1.below hba) hs31 (by omega) (by omega)).mono ?_;rintro e w4 ⟨⟨ax,cx,xl,rfl,hx⟩,hb4⟩;clear hmk;rw[HX.out] at hx;have hxl1:xl.length≤l.length+1:=hx.num.length_le_of_lt (by omega) HXB.out;have hxl0:0<xl.length:=by
  have:=(hx.num.len_zero (by omega)).2;have:=HV.out;have:0<y*2 ^ s:=Nat.mul_pos hy (Nat.pow_pos (by omega));omega
 have hBu:Blk .u32 216 w4 w3.heap.size (zeros (l.length+2)):=(Blk.new .u32 216 w3 _).below hb4 (by simp);have hb34:Below w3.heap.size w3 w4:=hba.trans (hb4.mono (by simp));have hs4:=hb34.size;have hlt4:=hBu.lt;clear hba hb4;obtain⟨bx,ox,hax,hbx,hcx⟩:=hx.row.cell 0 hxl0;subst hax;have hcp:=Qhn w4 w3.heap.size (l.length+2) cx bx ox xl hBu hx.row (by omega);clear hcx;obtain⟨n,hn⟩:∃n,v.length=n+2:=⟨v.length - 2,by omega⟩;have HN:Hid (v.length=n+2):=hn;rw[hn];rw[hn] at hvl2 hvll;clear hn;obtain⟨M,hM⟩:∃M,l.length=M+n+1:=⟨l.length - 1 - n,by omega⟩;have HM:Hid (l.length=M+n+1):=hM;have hmk2:∀w,(Instr.makeSlice 94 (.int .i64 ((l.length:Int)+2 - ((n:Int)+2))) (.int .i64 ((l.length:Int)+2 - ((n:Int)+2)))).run Tryz.prog w=.ok (.slice (some ⟨w.heap.size,0,none⟩) (M+1) (M+1)) (w.alloc (.cells (wordCells .u32 (zeros (M+1))) 216)):=
  fun w=>Qaz _ (M+1) (by omega) (by omega) w
 clear hM;go_wp2_with fail;clear hcp hmk2;generalize hW0:(w4.setRow w3.heap.size (wordCells .u32 (xl++zeros (l.length+2 - xl.length)))).alloc (.cells (wordCells .u32 (zeros (M+1))) 216)=W0 at*;have hgq:(w4.setRow w3.heap.size (wordCells .u32 (xl++zeros (l.length+2 - xl.length)))).heap.size=w4.heap.size:=by simp[World.setRow]
 have hBu0:Blk .u32 216 W0 w3.heap.size (xl++zeros (l.length+2 - xl.length)):=by
  rw[←hW0];exact(hBu.setRow _).alloc _
 have hBq0:Blk .u32 216 W0 w4.heap.size (zeros (M+1)):=by
  rw[←hW0,←hgq];exact Blk.new _ _ _ _
 have hb0:Below w3.heap.size w3 W0:=by
  rw[←hW0];exact(below_setRow hb34 (Nat.le_refl _) _).alloc (by rw[hgq];omega) _
 clear hW0 hgq hBu;obtain⟨bv,ov,hav,hbv,_⟩:=hv.row.cell 0 (by have:=HN.out;omega);subst hav;have hvc:∀i,i<n+2→w3.cell? ⟨bv,ov+i,none⟩=some (.int .u32 ((v.getD i 0:Nat):Int)):=by
  intro i hi;obtain⟨b',o',e1,_,e2⟩:=hv.row.cell i (by have:=HN.out;omega);obtain⟨rfl,rfl⟩:bv=b'∧ov=o':=by simpa using e1
  exact e2
 obtain⟨v1,hv1⟩:∃v1,v.getD (n+1) 0=v1:=⟨_,rfl⟩;obtain⟨v0,hv0⟩:∃v0,v.getD n 0=v0:=⟨_,rfl⟩;have hv1b:v1<4294967296:=by rw[←hv1];exact hv.num.small.getD (by omega) _
 have hv0b:v0<4294967296:=by rw[←hv0];exact hv.num.small.getD (by omega) _
 have hv1p:1≤v1:=by
  have e1:=hv.num.trim;have e2:=HN.out;rcases e1 with e1|e1
  · rw[e1] at e2;simp at e2
  · rw[e2] at e1;rw[←hv1];simp only[Nat.add_one_sub_one] at e1;omega
 have g1:=(hb0.cell (p:=⟨bv,ov+(n+1),none⟩) hbv).trans (hvc (n+1) (by omega));have g2:=(hb0.cell (p:=⟨bv,ov+n,none⟩) hbv).trans (hvc n (by omega));rw[hv1] at g1;rw[hv0] at g2;have HVC:Hid (∀i,i<n+2→w3.cell? ⟨bv,ov+i,none⟩=some (.int .u32 ((v.getD i 0:Nat):Int))):=hvc;have HV1:Hid (v.getD (n+1) 0=v1):=hv1;have HV0:Hid (v.getD n 0=v0):=hv0;clear hvc hv1 hv0;go_region
 all_goals
  go_wp2
 clear g1 g2;have hVb:V<4294967296 ^ (n+2):=by
  have e1:=Qab (B:=4294967296) (by omega) hv.num.small;rw[hv.num.eq,HN.out] at e1;exact e1
 have hV0:0<V:=by rw[←HV.out];exact Nat.mul_pos hy (Nat.pow_pos (by omega))
 have HI0:DivInv X V n M (M+1) (xl++zeros (l.length+2 - xl.length)) (zeros (M+1)):=
  Qhm X V n M _ xl v hx.num (by rw[show M+n+2=l.length+1 from by have:=HM.out;omega];exact HXB.out) hv.num HN.out (by have:=HM.out;omega)
 have HM0:DivMem w3 W0 bv ov w3.heap.size w4.heap.size n (l.length+2) v (xl++zeros (l.length+2 - xl.length)) (zeros (M+1)):=
  ⟨hb0,hbv,HVC.out,hv.num.small,hBu0,hBq0,hlt4,by rw[List.length_append,Qag];omega,hx.num.small.append (Qam _ _ (by omega))⟩
 have HMH:=Hi HM0;have HIH:=Hi HI0;clear HI0 hVb hBu0 hBq0 hb0 hs' HM0;rw[show (l.length:Int)+2 - ((n:Int)+2) - 1=((M+1:Nat):Int) - 1 from by have:=HM.out;omega];refine wp_loop_rounds (M+1+1) ?_;refine(Qhc _ w3 bv ov cv w3.heap.size w4.heap.size n M (l.length+2) v1 v0 X V v _ (by have:=HM.out;omega) (by omega) hv.num HN.out HV1.out HV0.out hv1p ?hex (M+1)) _ _ _ (Nat.le_refl _) HMH.out.drew HIH.out
 case hex=>
  intro us qs
  iterate 270 intro
  intro wr hm hI;have hdone:val 4294967296 qs=x / y∧val 4294967296 us / 2 ^ s=x % y:=by
   have e1:=hI.eq;have e2:=hI.lt;rw[Nat.pow_zero,Nat.one_mul] at e1 e2;rw[List.drop_zero] at e1;exact Qdn (Nat.pow_pos (by decide)) HX.out HV.out e1 e2
  obtain⟨hd1,hd2⟩:=hdone;have HD2:=Hi hd2;have HIN:=Hi hI;have HME:=Hi hm;clear hd2 hI hm HMH HIH;go_wp2_with fail;refine(Qat w4.heap.size (M+1) (M+1) (x / y) qs wr HME.out.qb HIN.out.qlen HIN.out.qsmall (Nat.le_refl _) (by have:=HM.out;omega) hd1).mono ?_;rintro e w5 ⟨⟨aq,cq,rq,rfl,huq⟩,rfl⟩;go_wp2_with fail;refine(Qat w3.heap.size (l.length+2) (l.length+2) _ us w5 HME.out.ub HME.out.ul HME.out.usmall (Nat.le_refl _) (by omega) rfl).mono ?_;rintro e w6 ⟨⟨au,cu,ru,rfl,huu⟩,rfl⟩;go_wp2_with fail;refine(Qhr au cu s ru _ w6 huu hs31).mono ?_;rintro e w7 ⟨⟨ar,cr,rr,rfl,hur⟩,hb7⟩;go_wp2;go_ret2;rw[HD2.out] at hur;refine⟨⟨aq,cq,rq,ar,cr,rr,rfl,huq.below hb7,hur⟩,?_⟩;have hb36:Below w3.heap.size w3 w6:=HME.out.below;exact hb.trans ((hb3.mono hb.size).trans ((hb36.mono (Nat.le_trans hb.size hb3.size)).trans (hb7.mono (Nat.le_trans hb.size (Nat.le_trans hb3.size hb36.size)))))
theorem Qa2(a1 a2:Option Addr)(c1 c2:Nat)(l m:List Nat)(x y:Nat)(w:World)(h1:U32 w a1 c1 l x)(h2:U32 w a2 c2 m y)(hy:0<y)(hlb:l.length<1099511627770):
 Calls Tryz.prog 172 #[.slice a1 l.length c1,.slice a2 m.length c2] w (DivOk w x y):=by
 by_cases hxy:x<y
 · exact Qg7 a1 a2 c1 c2 l m x y w h1 h2 hxy
 by_cases hl:l.length≤2
 · exact Qg8 a1 a2 c1 c2 l m x y w h1 h2 hy (by omega) hl
 by_cases hm:m.length=1
 · exact Qg9 a1 a2 c1 c2 l m x y w h1 h2 hy (by omega) (by omega) hm
 ·
  have hm0:m.length≠0:=by
   intro h0;have:=(h2.num.len_zero (by decide)).2 h0;omega
  exact Qho a1 a2 c1 c2 l m x y w h1 h2 hy (by omega) (by omega) (by omega) hlb
end Go.Proofs.YtbbkamnfjejceaaGreatDoor
