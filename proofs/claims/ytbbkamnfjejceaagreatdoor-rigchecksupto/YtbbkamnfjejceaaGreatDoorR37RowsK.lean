/- package rows: what lies where while stairs are made. -/
import Derived.Test.YtbbkamnfjejceaaGreatDoorR36RowsI
namespace Go.Proofs.YtbbkamnfjejceaaGreatDoor
open Go.RowKit
set_option linter.unusedVariables false
set_option linter.unusedSimpArgs false
theorem Qi5:∀u,u∈ (Value.slice none 0 0).cells.toList→IsSl u:=fun u hu=>by
 have e:(Value.slice none 0 0).cells=#[.slice none 0 0]:=by rfl
 rw[e] at hu;obtain rfl:u=_:=by simpa using hu
 exact⟨_,_,_,rfl⟩
theorem Grow.made(w:World)(e:TypeId)(sz:Nat)(K:Value→Prop):Grow (w.alloc (.cells #[] e)) w.heap.size e sz K (.slice (some ⟨w.heap.size,0,none⟩) 0 0) 0 []:=
 ⟨World.ownsRow_made w #[] 0 (Nat.le_refl _) (Nat.zero_le _) (by simp),fun g hg=>by
   have e:w.heap.size=g:=by simpa [Value.ownBlock] using hg
   subst e
   exact⟨#[],SB.new w _ _,fun u hu=>by simp at hu⟩⟩
set_option maxHeartbeats 1000000 in
theorem Qqo(a:Option Addr)(cap:Nat)(rs:List MR)(w:World)(h:ARow MR.cells w a cap rs)(hl:rs.length≤1000):
 Calls Tryz.prog 177 #[.slice a rs.length cap] w fun e w'=>(∃v,e=.returned v∧Grow w' w.heap.size 167 1 IsSl v rs.length (rs.map MR.val))∧Below w.heap.size w w':=by
 obtain⟨i0,hi,hz0,hz1,hz2⟩:=info_parts Qcr;have hq:∀(w:World) (a:Option Addr) (n c n' c':Nat),(binOp .eql 133 (.slice a n c) (.slice none n' c')).run Tryz.prog w=.ok (.bool a.isNone) w:=fun w a n c n' c'=>Lib.run_eql_slice_nil w _ _ a n c n' c' Tryz.underlying133
 have H:=Hi h;clear h;cases a with
 |none=>
  have hrs:rs= []:=by
   cases rs with
   |nil=>rfl
   |cons r l=>
    obtain⟨b,off,e,_⟩:=H.out.at (sz:=1) (fun _=>rfl) (by decide) (i:=0) (e:=r) rfl;cases e
  subst hrs;clear hi hz0 hz1 hz2;go_enter Tryz.func177,Tryz.ntmps177;go_wp2;go_ret;exact⟨⟨_,rfl,Grow.nil _ _ _ _ _⟩,Below.refl _ _⟩
 |some ad=>
  obtain⟨W,hW⟩:∃W,w.alloc (.cells #[] 167)=W:=⟨_,rfl⟩;have hbW:Below w.heap.size w W:=by rw[←hW];exact(Below.refl _ _).alloc (Nat.le_refl _) _
  have hg0:Grow W w.heap.size 167 1 IsSl (.slice (some ⟨w.heap.size,0,none⟩) 0 0) 0 []:=by rw[←hW];exact Grow.made w _ _ _
  obtain⟨v',w',hr,hgr,hgw,hat⟩:=hg0.app (P:=Tryz.prog) (ty:=133) Tryz.underlying133 hi hz0 hz1 hz2 rfl (by decide) Qi5 ad rs.length cap (rs.map MR.val) (by simp) (fun j u hj=>by
   rw[←Qdx] at hj;obtain⟨b,off,e,hb,hc⟩:=H.out.row.cell j u hj;cases e;rw[Qaq]
   exact(hbW.cell (p:=⟨b,off+j,none⟩) hb).trans hc) (Qqm rs) (Qql rs) (by omega) (by decide) hbW.size
  rw[←hW] at hr;have HR:=Hi hr;have HG:=Hi hgr;have HB:=Hi (hbW.grown hgw hbW.size (fun k hk=>by simp[Value.ownBlock] at hk;omega));clear hr hgr hgw hat hg0 hbW hW hi hz0 hz1 hz2;go_enter Tryz.func177,Tryz.ntmps177;go_wp2_with (at_builtin;refine Qcu _ rfl _ _ 133 133 rfl (.slice (some ⟨w.heap.size,0,none⟩) 0 0) (.slice (some ad) rs.length cap) _ _ rfl rfl HR.out ?_);go_wp2;go_ret;refine⟨⟨_,rfl,?_⟩,HB.out⟩;have:=HG.out;rw[Nat.zero_add,List.nil_append] at this;exact this
def layCells(C:Array Value):Nat→List Value→Array Value
 |_,[]=>C
 |o,v :: r=>layCells (C.setIfInBounds o v) (o+1) r
theorem Qcs:∀(vs:List Value) (o:Nat) (C:Array Value),(layCells C o vs).size=C.size
 | [],_,_=>rfl
 |v :: r,o,C=>by rw[layCells,Qcs r];simp
theorem Qfo:∀(vs:List Value) (o:Nat) (C:Array Value) (i:Nat),o+vs.length≤C.size→(layCells C o vs)[i]?=if o≤i∧i<o+vs.length then vs[i - o]? else C[i]?
 | [],o,C,i,_=>by rw[if_neg (by simp only[List.length_nil];omega)];rfl
 |v :: r,o,C,i,h=>by
  simp only[List.length_cons] at h;rw[layCells,Qfo r (o+1) _ i (by simp;omega),Array.getElem?_setIfInBounds];by_cases h1:i=o
  ·
   subst h1;rw[if_neg (by omega),if_pos rfl,if_pos (by omega),if_pos (by simp only[List.length_cons];omega)];simp
  ·
   by_cases h2:o+1≤i∧i<o+1+r.length
   · rw[if_pos h2,if_pos (by simp only[List.length_cons];omega),show i - o=(i - (o+1))+1 by omega]
     simp
   · rw[if_neg h2,if_neg (Ne.symm h1),if_neg (by simp only[List.length_cons];omega)]
theorem SB.cells{t:TypeId}{g:Nat}:∀(vs:List Value) (o:Nat) {w:World} {C:Array Value},SB w g t C→SB (w.setCells g o vs) g t (layCells C o vs)∧Only g w (w.setCells g o vs)
 | [],_,w,_,h=>⟨h,Only.refl _ _⟩
 |v :: r,o,w,C,h=>by
  obtain⟨h1,h2⟩:=SB.cells r (o+1) (h.set o v);exact⟨h1,((Only.refl g w).setCell o v).trans h2⟩
theorem Qqp:∀w,(zeroValue 167).run Tryz.prog w=.ok (.slice none 0 0) w:=by
 intro w;obtain⟨i,hi,h⟩:=Option.map_eq_some_iff.1 Qcr;simp only[Prod.mk.injEq] at h;simp[zeroValue,typeInfo,hi,h.1]
set_option maxHeartbeats 4000000 in
set_option maxRecDepth 1000000 in
theorem Qqq(g off cap i j n:Nat)(C:Array Value)(w:World)(hs:SB w g 167 C)(hoff:off=0)(hsl:∀u,u∈ C.toList→IsSl u)(hn:n≤cap)(hcs:C.size=cap)(hcm:cap≤maxLen)(hij:i<j)(hj:j≤n):
 Calls Tryz.prog 179 #[.slice (some ⟨g,off,none⟩) n cap,.int .i64 i,.int .i64 j] w fun e w'=>e=.returned (.slice (some ⟨g,off,none⟩) (i+(n - j)) cap)∧
  w'=(w.drew.setCells g (off+i*1) ((C.toList.take n).drop j)).setCells g (off+(i+(n - j))) (List.replicate (n - (i+(n - j))) (.slice none 0 0)):=by
 obtain⟨i0,hi0,hz0,hz1,hz2⟩:=info_parts Qcr;have hcm':cap≤9223372036854775807:=by simpa [maxLen] using hcm
 have hcell:∀k,w.cell? ⟨g,off+k,none⟩=C[k]?:=fun k=>by rw[hoff,Nat.zero_add];exact hs.cell k
 have hfree:∀k,w.frozen? ⟨g,off+k,none⟩=false:=fun k=>hs.free _
 obtain⟨news,hnews⟩:∃news,news=(C.toList.take n).drop j:=⟨_,rfl⟩;have hlen:news.length=n - j:=by rw[hnews];simp;omega
 have hget:∀t u,news[t]?=some u→C[j+t]?=some u:=fun t u hu=>by
  have ht:=(List.getElem?_eq_some_iff.1 hu).1;rw[hnews,List.getElem?_drop,List.getElem?_take_of_lt (by omega),Array.getElem?_toList] at hu;exact hu
 obtain⟨A,hA,hsrc⟩:∃A:Addr,(if cap=j then some (⟨g,off,none⟩:Addr) else some ⟨g,off+j,none⟩)=some A∧Hid (∀t u,news[t]?=some u→w.drew.cell? (A.add t)=some u):=by
  by_cases h:cap=j
  ·
   refine⟨⟨g,off,none⟩,by simp[h],Hi fun t u hu=>?_⟩;have:=(List.getElem?_eq_some_iff.1 hu).1;omega
  ·
   refine⟨⟨g,off+j,none⟩,by simp[h],Hi fun t u hu=>?_⟩;rw[Qaq,Nat.add_assoc];exact(hcell (j+t)).trans (hget t u hu)
 have s1:Hid (news.length=(n - j)*1):=Hi (by rw[Nat.mul_one];exact hlen);have s2:Hid (∀u∈ news,u.oneCell'=true):=Hi fun u hu=>by
  rw[hnews] at hu;obtain⟨_,_,_,rfl⟩:=hsl u (List.mem_of_mem_take (List.mem_of_mem_drop hu));rfl
 have s3:Hid (∀t,t<news.length→(w.drew.cell? ⟨g,off+i*1+t,none⟩).isSome=true∧w.drew.frozen? ⟨g,off+i*1+t,none⟩=false):=Hi fun t ht=>by
  rw[Nat.mul_one,Nat.add_assoc];refine⟨?_,hfree _⟩
  show (w.cell? _).isSome=true
  rw[hcell,Array.getElem?_eq_getElem (by omega)];rfl
 obtain⟨W1,hW1⟩:∃W1,W1=w.drew.setCells g (off+i*1) news:=⟨_,rfl⟩;have hSB1:SB W1 g 167 (layCells C (off+i*1) news):=by rw[hW1];exact(SB.cells news _ hs.drew).1
 have hcl:∀ty,(Builtin.clear_ #[133] ty #[.slice (some ⟨g,off+(i+(n - j)),none⟩) (n - (i+(n - j))) (cap - (i+(n - j)))]).run Tryz.prog W1=.ok (.tuple #[]) (W1.setCells g (off+(i+(n - j))) (List.replicate (n - (i+(n - j))) (.slice none 0 0))):=
  fun ty=>Lib.run_clear_slice W1 _ _ ty _ Tryz.underlying133 Qqp rfl rfl g (off+(i+(n - j))) _ _ (by omega) (fun t ht=>by
   rw[hSB1.cell,Array.getElem?_eq_getElem (by rw[Qcs];omega)]
   rfl) (fun t ht=>hSB1.free _)
 have hW:Hid (W1=w.drew.setCells g (off+i*1) news):=Hi hW1;have hN:Hid (news=(C.toList.take n).drop j):=Hi hnews;have hic:i≤cap:=by omega
 have hjc:j≤cap:=by omega
 clear hW1 hSB1 hs hget hnews hlen hcell hfree hsl hz0 hz2 hoff hcs hcm;go_enter Tryz.func179,Tryz.ntmps179;go_wp2_with fail;go_region_law (refine step_append_room rfl (.tmp 22) (.tmp 25) 133 rfl 167 i0 1 Tryz.underlying133 hi0 hz1 g off i cap (by simp[Act.eval,Act.put]) A (n - j) (cap - j) news (by simp[Act.eval,Act.put]) s1.out hsrc.out s2.out (by omega) s3.out ?_;rw[←hW.out]);go_wp2;go_ret;exact⟨rfl,by rw[←hN.out,←hW.out]⟩
theorem Qqr(w:World)(B i j n:Nat)(v:Value)(xs:List Value)(h:Grow w B 167 1 IsSl v n xs)(hij:j=i+1)(hi:i<n):
 Calls Tryz.prog 179 #[v,.int .i64 i,.int .i64 j] w fun e w'=>∃g v',v.ownBlock=some g∧v'.ownBlock=some g∧e=.returned v'∧Grow w' B 167 1 IsSl v' (n - 1) (xs.eraseIdx i)∧Only g w w':=by
 obtain⟨hlen,hown⟩:=h.own;rcases hown with ⟨_,h0⟩|⟨g,cap,cur,rfl,hB,hg,hnc,hcm,hcs,htake⟩
 · omega
 obtain⟨C,hC,hall⟩:=h.all g rfl;rw[hg] at hC;injection hC with hC
 injection hC with hC _ _
 subst hC;rw[Nat.mul_one] at hcs htake hlen;refine(Qqq g 0 cap i j n cur w hg rfl hall hnc hcs hcm (by omega) (by omega)).mono ?_;rintro e w' ⟨rfl,rfl⟩;have e1:i+(n - j)=n - 1:=by omega
 have e2:n - (n - 1)=1:=by omega
 simp only[Nat.zero_add,Nat.mul_one,e1,e2,htake];obtain⟨k1,k2⟩:=SB.cells (t:=167) (g:=g) (xs.drop j) i (w:=w.drew) (C:=cur) hg;obtain⟨k3,k4⟩:=SB.cells (List.replicate 1 (.slice none 0 0)) (n - 1) k1;have hxl:(xs.drop j).length=n - j:=by simp;omega
 have hsz:(layCells (layCells cur i (xs.drop j)) (n - 1) (List.replicate 1 (.slice none 0 0))).size=cap:=by rw[Qcs,Qcs];exact hcs
 have hat:∀k,(layCells (layCells cur i (xs.drop j)) (n - 1) (List.replicate 1 (.slice none 0 0)))[k]?=if n - 1≤k∧k<n - 1+1 then (List.replicate 1 (Value.slice none 0 0))[k - (n - 1)]? else if i≤k∧k<i+(n - j) then (xs.drop j)[k - i]? else cur[k]?:=fun k=>by
  rw[Qfo _ _ _ _ (by rw[Qcs];simp;omega),Qfo _ _ _ _ (by omega),hxl];simp
 have hcx:∀k,k<n→cur[k]?=xs[k]?:=fun k hk=>by rw[←htake,List.getElem?_take_of_lt hk,Array.getElem?_toList]
 refine⟨g,_,rfl,rfl,rfl,⟨⟨?_,.inr ⟨g,cap,_,rfl,hB,k3,by omega,hcm,by rw[Nat.mul_one];exact hsz,?_⟩⟩,fun g' hg'=>?_⟩,?_⟩
 · rw[List.length_eraseIdx,if_pos (by omega),Nat.mul_one];omega
 ·
  rw[Nat.mul_one];apply List.ext_getElem?;intro k;by_cases hk:k<n - 1
  ·
   rw[List.getElem?_take_of_lt hk,Array.getElem?_toList,hat k,if_neg (by omega),List.getElem?_eraseIdx];by_cases h1:k<i
   · rw[if_neg (by omega),if_pos h1]
     exact hcx k (by omega)
   ·
    rw[if_pos (by omega),if_neg h1,List.getElem?_drop]
    congr 1
    omega
  · rw[List.getElem?_eq_none (by rw[List.length_take];omega),List.getElem?_eq_none (by rw[List.length_eraseIdx,if_pos (by omega)];omega)]
 ·
  have eg:g=g':=by simpa [Value.ownBlock] using hg'
  subst eg;refine⟨_,k3,fun u hu=>?_⟩;obtain⟨k,hk⟩:=List.mem_iff_getElem?.1 hu;rw[Array.getElem?_toList,hat k] at hk
  split at hk
  · obtain rfl:=List.eq_of_mem_replicate (List.mem_of_getElem? hk)
    exact⟨_,_,_,rfl⟩
  ·
   split at hk
   ·
    have hm:=List.mem_of_mem_drop (List.mem_of_getElem? hk);rw[←htake] at hm;exact hall u (List.mem_of_mem_take hm)
   · exact hall u (List.mem_of_getElem? (by rw[Array.getElem?_toList];exact hk))
 · have:=k2.trans k4
   exact⟨this.os,this.tape,this.output,this.size,this.block⟩
def IsI(u:Value):Prop:=∃n:Int,u=Value.int .i64 n
def headsV(hs:List Nat):List Value:=hs.map fun h=>Value.int .i64 (h:Nat)
theorem Qqs:∀u,u∈ (Value.int .i64 0).cells.toList→IsI u:=fun u hu=>by
 have e:(Value.int .i64 0).cells=#[.int .i64 0]:=by rfl
 rw[e] at hu;obtain rfl:u=_:=by simpa using hu
 exact⟨_,rfl⟩
theorem IsI.plain{C:Array Value}(h:∀u,u∈ C.toList→IsI u):Plain C:=fun u hu=>by
 obtain⟨n,rfl⟩:=h u hu;exact⟨fun x=>by simp,fun m=>by simp⟩
theorem Qqt:(Tryz.prog.info? 3).map (fun i=>(i.zero,i.size,i.bytes))=some (some (.int .i64 0),1,8):=by kernel_rfl
theorem SB.unlike{w:World}{b b':Nat}{t t':TypeId}{C C':Array Value}(h:SB w b t C)(h':SB w b' t' C')(ht:t≠t'):b≠b':=by
 rintro rfl;unfold SB at h h';rw[h] at h';injection h' with h'
 injection h' with _ h' _
 exact ht h'
theorem Grow.sb{w:World}{B:Nat}{e:TypeId}{sz:Nat}{K:Value→Prop}{v:Value}{n:Nat}{xs:List Value}(h:Grow w B e sz K v n xs){g:Nat}(hg:v.ownBlock=some g):∃C,SB w g e C∧∀u,u∈ C.toList→K u:=h.all g hg
theorem Grow.lt{w:World}{B:Nat}{e:TypeId}{sz:Nat}{K:Value→Prop}{v:Value}{n:Nat}{xs:List Value}(h:Grow w B e sz K v n xs){g:Nat}(hg:v.ownBlock=some g):B≤g∧g<w.heap.size:=h.own.lt g hg
theorem Grow.below{w w':World}{B:Nat}{e:TypeId}{sz:Nat}{K:Value→Prop}{v:Value}{n:Nat}{xs:List Value}(h:Grow w B e sz K v n xs)(hb:Below w.heap.size w w'):Grow w' B e sz K v n xs:=h.keep fun g hg=>hb.block g (h.lt hg).2
theorem Grow.only{w w':World}{B:Nat}{e:TypeId}{sz:Nat}{K:Value→Prop}{v:Value}{n:Nat}{xs:List Value}(h:Grow w B e sz K v n xs)(hg:w.grownBy w' v.ownBlock)(hK:∀C:Array Value,(∀u,u∈ C.toList→K u)→Plain C):Fr w w':=by
 rcases ho:v.ownBlock with _|g
 · rw[ho] at hg
   exact Fr.of_below ⟨hg.os,hg.tape,hg.output,hg.size,fun k hk=>hg.block k hk (by simp)⟩
 ·
  obtain⟨C,h1,h2⟩:=h.sb ho;rw[ho] at hg;exact Fr.of_only ⟨hg.os,hg.tape,hg.output,hg.size,fun k hk hne=>hg.block k hk (by simpa using hne)⟩ h1 (hK C h2)
structure SW (w u:World) (W K wide:Nat) (L S X:List MR) (hs:List Nat) (lv sv hv b1 b2:Value):Prop where
 box:SB u (w.heap.size+1) 183 #[.int .i64 wide,b1,b2]
 res:SB u w.heap.size 183 #[.int .i64 0,.slice none 0 0,.slice none 0 0]
 left:Grow u w.heap.size 167 1 IsSl lv L.length (L.map MR.val)
 rows:Grow u w.heap.size 167 1 IsSl sv S.length (S.map MR.val)
 heads:Grow u w.heap.size 3 1 IsI hv hs.length (headsV hs)
 apart:∀g,lv.ownBlock=some g→sv.ownBlock≠some g
 okL:Oks u W K L
 okS:Oks u W K S
 okX:Oks u W K X
 base:Below w.heap.size w u
 sl:IsSl b1∧IsSl b2
section
variable {w u:World} {W K wide:Nat} {L S X:List MR} {hs:List Nat} {lv sv hv b1 b2:Value}
theorem SW.below{u':World}(h:SW w u W K wide L S X hs lv sv hv b1 b2)(hb:Below u.heap.size u u'):SW w u' W K wide L S X hs lv sv hv b1 b2:=
 ⟨h.box.below hb h.box.lt,h.res.below hb h.res.lt,h.left.below hb,h.rows.below hb,h.heads.below hb,h.apart,h.okL.fr (Fr.of_below hb),h.okS.fr (Fr.of_below hb),h.okX.fr (Fr.of_below hb),h.base.trans (hb.mono h.base.size),h.sl⟩
theorem SW.alloc(h:SW w u W K wide L S X hs lv sv hv b1 b2)(o:Obj):SW w (u.alloc o) W K wide L S X hs lv sv hv b1 b2:=h.below ((Below.refl _ _).alloc (Nat.le_refl _) _)
theorem SW.drew(h:SW w u W K wide L S X hs lv sv hv b1 b2):SW w u.drew W K wide L S X hs lv sv hv b1 b2:=h.below (Below.refl _ _).drew
theorem row_stairs:167≠183:=by decide
theorem int_stairs:3≠183:=by decide
theorem int_row:3≠167:=by decide
theorem SW.left_only{u':World}{g:Nat}{L':List MR}{lv':Value}(h:SW w u W K wide L S X hs lv sv hv b1 b2)(hg:lv.ownBlock=some g)(hg':lv'.ownBlock=some g)(ho:Only g u u')(hl:Grow u' w.heap.size 167 1 IsSl lv' L'.length (L'.map MR.val))(hok:Oks u' W K L'):SW w u' W K wide L' S X hs lv' sv hv b1 b2:=by
 obtain⟨C,c1,c2⟩:=h.left.sb hg;have hfr:Fr u u':=Fr.of_only ho c1 (IsSl.plain c2);refine⟨h.box.only ho (h.box.unlike c1 row_stairs.symm),h.res.only ho (h.res.unlike c1 row_stairs.symm),hl,h.rows.keep fun k hk=>ho.block k (h.rows.lt hk).2 ?_,h.heads.keep fun k hk=>ho.block k (h.heads.lt hk).2 ?_,fun k hk=>?_,hok,h.okS.fr hfr,h.okX.fr hfr,h.base.trans (ho.below (h.left.lt hg).1 h.base.size),h.sl⟩
 · rintro rfl
   exact h.apart k hg hk
 · obtain⟨D,d1,_⟩:=h.heads.sb hk
   exact d1.unlike c1 int_row
 ·
  rw[hg'] at hk;rw[←hk];exact h.apart g hg
theorem SW.app1{s:MR}{nb c:Nat}(h:SW w u W K wide L S X hs lv sv hv b1 b2)(hc:u.cell? ⟨nb,0,none⟩=some s.val)(hok:MOk u W K s)(hn:S.length≤1000)(ty:TypeId):
 ∃sv' u',(Builtin.append_ #[133,133] ty #[sv,.slice (some ⟨nb,0,none⟩) 1 c]).run Tryz.prog u=.ok sv' u'∧SW w u' W K wide L (S++ [s]) X hs lv sv' hv b1 b2∧u.heap.size≤u'.heap.size∧∀b i n,u.cell? ⟨b,i,none⟩=some (.int .i64 n)→u'.cell? ⟨b,i,none⟩=some (.int .i64 n):=by
 obtain⟨i0,hi,hz0,hz1,hz2⟩:=info_parts Qcr;obtain⟨sv',u',hr,hgr,hgw,hat⟩:=h.rows.app (P:=Tryz.prog) (ty:=ty) Tryz.underlying133 hi hz0 hz1 hz2 rfl (by decide) Qi5 ⟨nb,0,none⟩ 1 c [s.val] rfl (fun j v hj=>by
  match j,hj with
  |0,hj=>
   obtain rfl:s.val=v:=by simpa using hj
   rw[Qaq]
   exact hc) (fun v hv=>by obtain rfl:v=s.val:=by simpa using hv
                           rfl) (fun v hv=>by obtain rfl:v=s.val:=by simpa using hv
                                              exact⟨_,_,_,rfl⟩) (by omega) (by decide) h.base.size
 have hfr:Fr u u':=h.rows.only hgw (fun C=>IsSl.plain);have hkeep:∀b,b<u.heap.size→sv.ownBlock≠some b→u'.heap[b]?=u.heap[b]?:=fun b hb hne=>hgw.block b hb (fun e=>hne e.symm)
 have hne:∀{b:Nat} {t:TypeId} {C:Array Value},SB u b t C→t≠167→sv.ownBlock≠some b:=fun {b t C} hb ht hc=>by
  obtain⟨D,d1,_⟩:=h.rows.sb hc;exact hb.unlike d1 ht rfl
 have hsb:∀{b:Nat} {t:TypeId} {C:Array Value},SB u b t C→t≠167→SB u' b t C:=fun {b t C} hb ht=>by
  have h1:=hkeep b hb.lt (hne hb ht);unfold SB at hb ⊢;rw[h1];exact hb
 have hbase:Below w.heap.size w u':=h.base.grown hgw h.base.size (fun k hk=>(h.rows.lt hk).1);refine⟨sv',u',hr,⟨hsb h.box row_stairs.symm,hsb h.res row_stairs.symm,h.left.keep fun k hk=>hkeep k (h.left.lt hk).2 (h.apart k hk),by rw[List.map_append,List.length_append];exact hgr,h.heads.keep fun k hk=>?_,fun k hk=>?_,h.okL.fr hfr,fun r hr=>?_,h.okX.fr hfr,hbase,h.sl⟩,hgw.size,fun b i n hb=>?_⟩
 · obtain⟨D,d1,_⟩:=h.heads.sb hk
   exact hkeep k (h.heads.lt hk).2 (hne d1 int_row)
 ·
  rcases hat with e|e
  · rw[e]
    exact h.apart k hk
  ·
   rw[e];have:=(h.left.lt hk).2;intro e';injection e' with e'
   omega
 ·
  rcases List.mem_append.1 hr with hr|hr
  · exact(h.okS r hr).fr hfr
  · obtain rfl:r=s:=by simpa using hr
    exact hok.fr hfr
 ·
  refine(World.cell?_of_block (w:=u) (a:=⟨b,i,none⟩) (hkeep b (World.block_lt_of_cell? _ _ hb) fun hc=>?_)).trans hb;obtain⟨D,d1,d2⟩:=h.rows.sb hc;rw[d1.cell] at hb;obtain⟨_,_,_,e⟩:=d2 _ (List.mem_of_getElem? (by rw[Array.getElem?_toList];exact hb));cases e
theorem SW.app2{k nb c:Nat}(h:SW w u W K wide L S X hs lv sv hv b1 b2)(hc:u.cell? ⟨nb,0,none⟩=some (.int .i64 (k:Nat)))(hn:hs.length≤1000)(ty:TypeId):
 ∃hv' u',(Builtin.append_ #[181,181] ty #[hv,.slice (some ⟨nb,0,none⟩) 1 c]).run Tryz.prog u=.ok hv' u'∧SW w u' W K wide L S X (hs++ [k]) lv sv hv' b1 b2:=by
 obtain⟨i0,hi,hz0,hz1,hz2⟩:=info_parts Qqt;obtain⟨hv',u',hr,hgr,hgw,hat⟩:=h.heads.app (P:=Tryz.prog) (ty:=ty) Tryz.underlying181 hi hz0 hz1 hz2 rfl (by decide) Qqs ⟨nb,0,none⟩ 1 c [.int .i64 (k:Nat)] rfl (fun j v hj=>by
  match j,hj with
  |0,hj=>
   obtain rfl:_=v:=by simpa using hj
   rw[Qaq]
   exact hc) (fun v hv=>by obtain rfl:v=_:=by simpa using hv
                           rfl) (fun v hv=>by obtain rfl:v=_:=by simpa using hv
                                              exact⟨_,rfl⟩) (by omega) (by decide) h.base.size
 have hfr:Fr u u':=h.heads.only hgw (fun C=>IsI.plain);have hkeep:∀b,b<u.heap.size→hv.ownBlock≠some b→u'.heap[b]?=u.heap[b]?:=fun b hb hne=>hgw.block b hb (fun e=>hne e.symm)
 have hne:∀{b:Nat} {t:TypeId} {C:Array Value},SB u b t C→t≠3→hv.ownBlock≠some b:=fun {b t C} hb ht hc=>by
  obtain⟨D,d1,_⟩:=h.heads.sb hc;exact hb.unlike d1 ht rfl
 have hsb:∀{b:Nat} {t:TypeId} {C:Array Value},SB u b t C→t≠3→SB u' b t C:=fun {b t C} hb ht=>by
  have h1:=hkeep b hb.lt (hne hb ht);unfold SB at hb ⊢;rw[h1];exact hb
 have hbase:Below w.heap.size w u':=h.base.grown hgw h.base.size (fun k hk=>(h.heads.lt hk).1);refine⟨hv',u',hr,⟨hsb h.box int_stairs.symm,hsb h.res int_stairs.symm,h.left.keep fun k hk=>?_,h.rows.keep fun k hk=>?_,?_,h.apart,h.okL.fr hfr,h.okS.fr hfr,h.okX.fr hfr,hbase,h.sl⟩⟩
 · obtain⟨D,d1,_⟩:=h.left.sb hk
   exact hkeep k (h.left.lt hk).2 (hne d1 int_row.symm)
 · obtain⟨D,d1,_⟩:=h.rows.sb hk
   exact hkeep k (h.rows.lt hk).2 (hne d1 int_row.symm)
 ·
  have e:headsV (hs++ [k])=headsV hs++ [.int .i64 (k:Nat)]:=by simp[headsV]
  rw[e,List.length_append];exact hgr
theorem SW.put(h:SW w u W K wide L S X hs lv sv hv b1 b2):SW w ((u.setCell ⟨w.heap.size+1,1,none⟩ sv).setCell ⟨w.heap.size+1,2,none⟩ hv) W K wide L S X hs lv sv hv sv hv:=by
 have ho:Only (w.heap.size+1) u ((u.setCell ⟨w.heap.size+1,1,none⟩ sv).setCell ⟨w.heap.size+1,2,none⟩ hv):=((Only.refl _ _).setCell _ _).setCell _ _;have hsl:∀{B:Nat} {e:TypeId} {sz:Nat} {Q:Value→Prop} {v:Value} {n:Nat} {xs:List Value},Grow u B e sz Q v n xs→∃x y z,v=Value.slice x y z:=fun {B e sz Q v n xs} hgr=>by
  rcases hgr.own.2 with ⟨rfl,_⟩|⟨g,cap,cur,rfl,_⟩
  · exact⟨_,_,_,rfl⟩
  · exact⟨_,_,_,rfl⟩
 have keep:∀{B:Nat} {e:TypeId} {sz:Nat} {Q:Value→Prop} {v:Value} {n:Nat} {xs:List Value},e≠183→Grow u B e sz Q v n xs→Grow ((u.setCell ⟨w.heap.size+1,1,none⟩ sv).setCell ⟨w.heap.size+1,2,none⟩ hv) B e sz Q v n xs:=fun {B e sz Q v n xs} he hgr=>hgr.keep fun k hk=>ho.block k (hgr.lt hk).2 (by
  obtain⟨D,d1,_⟩:=hgr.sb hk
  exact d1.unlike h.box he)
 have hb0:=(h.box.set 1 sv).set 2 hv;have hpl:Plain #[.int .i64 (wide:Int),b1,b2]:=fun v hv=>by
  obtain⟨x1,x2,x3,e1⟩:=h.sl.1;obtain⟨y1,y2,y3,e2⟩:=h.sl.2;subst e1;subst e2;simp at hv;rcases hv with rfl|rfl|rfl
  · exact⟨by simp,by simp⟩
  · exact⟨by simp,by simp⟩
  · exact⟨by simp,by simp⟩
 have hfr:Fr u ((u.setCell ⟨w.heap.size+1,1,none⟩ sv).setCell ⟨w.heap.size+1,2,none⟩ hv):=Fr.of_only ho h.box hpl;exact⟨by simpa using hb0,h.res.only ho (by omega),keep row_stairs h.left,keep row_stairs h.rows,keep int_stairs h.heads,h.apart,h.okL.fr hfr,h.okS.fr hfr,h.okX.fr hfr,h.base.trans (ho.below (Nat.le_succ _) h.base.size),hsl h.rows,hsl h.heads⟩
end
theorem Grow.mono{w:World}{B B':Nat}{e:TypeId}{sz:Nat}{K:Value→Prop}{v:Value}{n:Nat}{xs:List Value}(h:Grow w B e sz K v n xs)(hB:B'≤B):Grow w B' e sz K v n xs:=by
 refine⟨⟨h.own.1,?_⟩,h.all⟩;rcases h.own.2 with h1|⟨g,cap,cur,rfl,hb,h2⟩
 · exact .inl h1
 · exact .inr ⟨g,cap,cur,rfl,Nat.le_trans hB hb,h2⟩
theorem Grow.slice{w:World}{B sz:Nat}{e:TypeId}{K:Value→Prop}{v:Value}{n:Nat}{xs:List Value}(h:Grow w B e sz K v n xs):
 ∃a cap,v=.slice a n cap∧n≤cap∧CRow w a xs∧(0<n→∃g,a=some ⟨g,0,none⟩∧v.ownBlock=some g):=by
 rcases h.own.2 with ⟨rfl,rfl⟩|⟨g,cap,cur,rfl,hb,hg,hnc,hcm,hcs,htake⟩
 ·
  have:xs= []:=List.eq_nil_of_length_eq_zero (by simpa using h.own.1);subst this;exact⟨none,0,rfl,Nat.le_refl _,⟨fun j u hj=>by simp at hj⟩,fun h=>by omega⟩
 ·
  refine⟨some ⟨g,0,none⟩,cap,rfl,hnc,⟨fun j u hj=>⟨g,0,rfl,SB.lt hg,?_⟩⟩,fun _=>⟨g,rfl,rfl⟩⟩;have:=h.own.cells (g:=g) rfl j u hj;rw[Qaq] at this;exact this
theorem Grow.mat{w:World}{B W K:Nat}{v:Value}{L:List MR}(h:Grow w B 167 1 IsSl v L.length (L.map MR.val))(hok:Oks w W K L):
 ∃a cap,v=.slice a L.length cap∧QMat w a cap W L∧(0<L.length→∃g,a=some ⟨g,0,none⟩):=by
 obtain⟨a,cap,e,hc,hr,hg⟩:=h.slice;refine⟨a,cap,e,⟨⟨hc,by rw[Qdx];exact hr⟩,fun r hr=>⟨(hok r hr).row,(hok r hr).len⟩⟩,fun h0=>?_⟩;obtain⟨g,h1,_⟩:=hg h0;exact⟨g,h1⟩
theorem Grow.set{w:World}{B g cap:Nat}{e:TypeId}{K:Value→Prop}{n k:Nat}{xs:List Value}{x:Value}(h:Grow w B e 1 K (.slice (some ⟨g,0,none⟩) n cap) n xs)(hk:k<n)(hx:K x):Grow (w.setCell ⟨g,k,none⟩ x) B e 1 K (.slice (some ⟨g,0,none⟩) n cap) n (xs.set k x):=by
 obtain⟨hlen,hown⟩:=h.own;rcases hown with ⟨h1,_⟩|⟨g',cap',cur,h1,hb,hg,hnc,hcm,hcs,htake⟩
 · cases h1
 ·
  injection h1 with h1 _ h2
  injection h1 with h1
  injection h1 with h1 _ _
  subst h1;subst h2;obtain⟨C,hC,hall⟩:=h.all g rfl;rw[hg] at hC;injection hC with hC
  injection hC with hC _ _
  subst hC;have hsb:SB (w.setCell ⟨g,k,none⟩ x) g e (cur.setIfInBounds k x):=SB.set hg k x;refine⟨⟨by rw[List.length_set];exact hlen,.inr ⟨g,cap,_,rfl,hb,hsb,hnc,hcm,by simpa using hcs,?_⟩⟩,fun g' hg'=>?_⟩
  · rw[Array.toList_setIfInBounds,List.take_set,htake]
  ·
   have e:g=g':=by simpa [Value.ownBlock] using hg'
   subst e;refine⟨_,hsb,fun u hu=>?_⟩;rw[Array.toList_setIfInBounds] at hu;rcases List.mem_or_eq_of_mem_set hu with hu|rfl
   · exact hall u hu
   · exact hx
theorem Grow.free{w:World}{B g cap l:Nat}{e:TypeId}{K:Value→Prop}{n:Nat}{xs:List Value}(h:Grow w B e 1 K (.slice (some ⟨g,0,none⟩) l cap) n xs)(k:Nat):w.frozen? ⟨g,k,none⟩=false:=by
 obtain⟨C,hC,_⟩:=h.sb (g:=g) rfl;exact hC.free k
theorem Grow.cell{w:World}{B g cap l:Nat}{e:TypeId}{K:Value→Prop}{n k:Nat}{xs:List Value}{x:Value}(h:Grow w B e 1 K (.slice (some ⟨g,0,none⟩) l cap) n xs)(hk:xs[k]?=some x):w.cell? ⟨g,k,none⟩=some x:=by
 have:=h.own.cells (g:=g) rfl k x hk;rw[Qaq,Nat.zero_add] at this;exact this
theorem SW.setL{w u:World}{W K wide g cap m n:Nat}{L S X:List MR}{hs:List Nat}{sv hv b1 b2:Value}{r:MR}(h:SW w u W K wide L S X hs (.slice (some ⟨g,0,none⟩) n cap) sv hv b1 b2)(hn:n=L.length)(hm:m<L.length)(hr:MOk u W K r):SW w (u.setCell ⟨g,m,none⟩ r.val) W K wide (L.set m r) S X hs (.slice (some ⟨g,0,none⟩) n cap) sv hv b1 b2:=by
 subst hn;have ho:Only g u (u.setCell ⟨g,m,none⟩ r.val):=(Only.refl _ _).setCell _ _;obtain⟨C,c1,c2⟩:=h.left.sb (g:=g) rfl;have hfr:=Fr.of_only ho c1 (IsSl.plain c2);refine h.left_only rfl rfl ho ?_ fun x hx=>?_
 · rw[List.length_set,List.map_set]
   exact h.left.set hm ⟨_,_,_,rfl⟩
 ·
  rcases List.mem_or_eq_of_mem_set hx with hx|rfl
  · exact(h.okL x hx).fr hfr
  · exact hr.fr hfr
theorem Qfp{α β:Type}(f:α→β):∀(l:List α) (i:Nat),(l.map f).eraseIdx i=(l.eraseIdx i).map f
 | [],_=>rfl
 |_ :: _,0=>rfl
 |x :: l,i+1=>by simp only[List.map_cons,List.eraseIdx_cons_succ];rw[Qfp f l i]
theorem Grow.form{w:World}{B sz:Nat}{e:TypeId}{K:Value→Prop}{v:Value}{n:Nat}{xs:List Value}(h:Grow w B e sz K v n xs){g:Nat}(hg:v.ownBlock=some g):∃cap,v=.slice (some ⟨g,0,none⟩) n cap:=by
 rcases h.own.2 with ⟨rfl,_⟩|⟨g',cap,cur,rfl,_⟩
 · simp[Value.ownBlock] at hg
 · obtain rfl:g'=g:=by simpa [Value.ownBlock] using hg
   exact⟨cap,rfl⟩
section
variable {w u:World} {W K wide:Nat} {L S X:List MR} {hs:List Nat} {lv sv hv b1 b2:Value}
theorem SW.erase{u':World}{g j:Nat}{v':Value}(h:SW w u W K wide L S X hs lv sv hv b1 b2)(hg:lv.ownBlock=some g)(hg':v'.ownBlock=some g)(ho:Only g u u')(hgr:Grow u' w.heap.size 167 1 IsSl v' (L.length - 1) ((L.map MR.val).eraseIdx j))(hj:j<L.length):
 ∃cap,v'=.slice (some ⟨g,0,none⟩) (L.eraseIdx j).length cap∧SW w u' W K wide (L.eraseIdx j) S X hs v' sv hv b1 b2:=by
 have hlen:(L.eraseIdx j).length=L.length - 1:=by rw[List.length_eraseIdx,if_pos hj]
 obtain⟨cap,e⟩:=hgr.form hg';obtain⟨C,c1,c2⟩:=h.left.sb hg;have hfr:Fr u u':=Fr.of_only ho c1 (IsSl.plain c2);refine⟨cap,by rw[hlen];exact e,h.left_only hg hg' ho ?_ fun r hr=>(h.okL r (List.mem_of_mem_eraseIdx hr)).fr hfr⟩;rw[hlen,←Qfp];exact hgr
theorem SW.withX{Y:List MR}(h:SW w u W K wide L S X hs lv sv hv b1 b2)(hY:Oks u W K Y):SW w u W K wide L S Y hs lv sv hv b1 b2:=⟨h.box,h.res,h.left,h.rows,h.heads,h.apart,h.okL,h.okS,hY,h.base,h.sl⟩
variable {P:Program} {ops:Array Oper} {o:Oper} {a:Act} {K':Act→World→Prop} {Q:Exit→Act→World→Prop} {E:Prop}
end
theorem Grow.frac_ne{w:World}{B sz:Nat}{e:TypeId}{v:Value}{n:Nat}{xs:List Value}(h:Grow w B e sz IsSl v n xs){g b i:Nat}{x y z:Value}{q:Rat}(hg:v.ownBlock=some g)(hc:w.cell? ⟨b,i,none⟩=some x)(hf:FracV w (.agg #[x,y,z]) q):g≠b:=by
 rintro rfl;obtain⟨C,c1,c2⟩:=h.sb hg;rw[c1.cell] at hc;obtain⟨_,_,_,e1⟩:=c2 x (List.mem_of_getElem? (by rw[Array.getElem?_toList];exact hc));obtain⟨neg,a,m,c,b,k,d,e2,_⟩:=hf;simp at e2;rw[e2.1] at e1;cases e1
theorem SW.done{w u:World}{W K wide:Nat}{L S X:List MR}{hs:List Nat}{lv sv hv b1 b2:Value}(h:SW w u W K wide L S X hs lv sv hv b1 b2)(x y z:Value):
 Grow (((u.setCell ⟨w.heap.size,0,none⟩ x).setCell ⟨w.heap.size,1,none⟩ y).setCell ⟨w.heap.size,2,none⟩ z) w.heap.size 167 1 IsSl sv S.length (S.map MR.val)∧Grow (((u.setCell ⟨w.heap.size,0,none⟩ x).setCell ⟨w.heap.size,1,none⟩ y).setCell ⟨w.heap.size,2,none⟩ z) w.heap.size 3 1 IsI hv hs.length (headsV hs)∧
  Oks (((u.setCell ⟨w.heap.size,0,none⟩ x).setCell ⟨w.heap.size,1,none⟩ y).setCell ⟨w.heap.size,2,none⟩ z) W K S∧Below w.heap.size w (((u.setCell ⟨w.heap.size,0,none⟩ x).setCell ⟨w.heap.size,1,none⟩ y).setCell ⟨w.heap.size,2,none⟩ z):=by
 have ho:Only w.heap.size u (((u.setCell ⟨w.heap.size,0,none⟩ x).setCell ⟨w.heap.size,1,none⟩ y).setCell ⟨w.heap.size,2,none⟩ z):=(((Only.refl _ _).setCell _ _).setCell _ _).setCell _ _;have hpl:Plain #[.int .i64 0,.slice none 0 0,.slice none 0 0]:=fun v hv=>by
  simp at hv;rcases hv with rfl|rfl
  · exact⟨by simp,by simp⟩
  · exact⟨by simp,by simp⟩
 refine⟨h.rows.keep fun k hk=>ho.block k (h.rows.lt hk).2 ?_,h.heads.keep fun k hk=>ho.block k (h.heads.lt hk).2 ?_,h.okS.fr (Fr.of_only ho h.res hpl),h.base.trans (ho.below (Nat.le_refl _) h.base.size)⟩
 · obtain⟨D,d1,_⟩:=h.rows.sb hk
   exact d1.unlike h.res row_stairs
 · obtain⟨D,d1,_⟩:=h.heads.sb hk
   exact d1.unlike h.res int_stairs
structure Going (K:Nat) (I:Nat→List Vec→List Vec→List Nat→Prop):Prop where
 fit:∀{c:Nat} {L S:List Vec} {hs:List Nat},I c L S hs→∀r,r∈ L→∀i,Fits (r i) K
 skip:∀{c:Nat} {L S:List Vec} {hs:List Nat},I c L S hs→(∀r,r∈ L→r c=0)→I (c+1) L S hs
 step:∀{c j:Nat} {L S:List Vec} {hs:List Nat} {s:Vec},I c L S hs→L[j]?=some s→s c≠0→I (c+1) ((L.eraseIdx j).map (lessBy c s)) (S++ [s]) (hs++ [c])
theorem Qqu{c:Nat}{s r:Vec}(h:r c=0):lessBy c s r=r:=by
 funext i;unfold lessBy;rw[h];grind
end Go.Proofs.YtbbkamnfjejceaaGreatDoor
