/- package rows: clean. -/
import Derived.Test.YtfpcipgoedifaaaGreatDoorK31RowsJ
namespace Go.Proofs.YtfpcipgoedifaaaGreatDoor
open Go.RowKit
set_option linter.unusedVariables false
set_option linter.unusedSimpArgs false
def IsI(u:Value):Prop:=∃n:Int,u=Value.int .i64 n
def headsV(hs:List Nat):List Value:=hs.map fun h=>Value.int .i64 (h:Nat)
theorem Qt7:∀u,u∈ (Value.int .i64 0).cells.toList->IsI u:=fun u hu=>by
 have e:(Value.int .i64 0).cells=#[.int .i64 0]:=by rfl
 rw[e] at hu;obtain rfl:u=_:=by simpa using hu
 exact⟨_,rfl⟩
theorem IsI.plain{C:Array Value}(h:∀u,u∈ C.toList->IsI u):Plain C:=fun u hu=>by
 obtain⟨n,rfl⟩:=h u hu;exact⟨fun x=>by simp,fun m=>by simp⟩
theorem Qt8:(Tryz.prog.info? 3).map (fun i=>(i.zero,i.size,i.bytes))=some (some (.int .i64 0),1,8):=by kernel_rfl
theorem SB.unlike{w:World}{b b':Nat}{t t':TypeId}{C C':Array Value}(h:SB w b t C)(h':SB w b' t' C')(ht:t≠t'):b≠b':=by
 rintro rfl;unfold SB at h h';rw[h] at h';injection h' with h'
 injection h' with _ h' _
 exact ht h'
theorem Grow.sb{w:World}{B:Nat}{e:TypeId}{sz:Nat}{K:Value->Prop}{v:Value}{n:Nat}{xs:List Value}(h:Grow w B e sz K v n xs){g:Nat}(hg:v.ownBlock=some g):∃C,SB w g e C/\∀u,u∈ C.toList->K u:=h.all g hg
theorem Grow.lt{w:World}{B:Nat}{e:TypeId}{sz:Nat}{K:Value->Prop}{v:Value}{n:Nat}{xs:List Value}(h:Grow w B e sz K v n xs){g:Nat}(hg:v.ownBlock=some g):B<=g/\g<w.heap.size:=h.own.lt g hg
theorem Grow.below{w w':World}{B:Nat}{e:TypeId}{sz:Nat}{K:Value->Prop}{v:Value}{n:Nat}{xs:List Value}(h:Grow w B e sz K v n xs)(hb:Below w.heap.size w w'):Grow w' B e sz K v n xs:=h.keep fun g hg=>hb.block g (h.lt hg).2
theorem Grow.only{w w':World}{B:Nat}{e:TypeId}{sz:Nat}{K:Value->Prop}{v:Value}{n:Nat}{xs:List Value}(h:Grow w B e sz K v n xs)(hg:w.grownBy w' v.ownBlock)(hK:∀C:Array Value,(∀u,u∈ C.toList->K u)->Plain C):Fr w w':=by
 rcases ho:v.ownBlock with _|g
 · rw[ho] at hg
   exact Fr.of_below ⟨hg.os,hg.tape,hg.output,hg.size,fun k hk=>hg.block k hk (by simp)⟩
 ·
  obtain⟨C,h1,h2⟩:=h.sb ho;rw[ho] at hg;exact Fr.of_only ⟨hg.os,hg.tape,hg.output,hg.size,fun k hk hne=>hg.block k hk (by simpa using hne)⟩ h1 (hK C h2)
structure SW (w u:World) (W K wide:Nat) (L S X:List MR) (hs:List Nat) (lv sv hv b1 b2:Value):Prop where
 box:SB u (w.heap.size+1) 144 #[.int .i64 wide,b1,b2]
 res:SB u w.heap.size 144 #[.int .i64 0,.slice none 0 0,.slice none 0 0]
 left:Grow u w.heap.size 70 1 IsSl lv L.length (L.map MR.val)
 rows:Grow u w.heap.size 70 1 IsSl sv S.length (S.map MR.val)
 heads:Grow u w.heap.size 3 1 IsI hv hs.length (headsV hs)
 apart:∀g,lv.ownBlock=some g->sv.ownBlock≠some g
 okL:Oks u W K L
 okS:Oks u W K S
 okX:Oks u W K X
 base:Below w.heap.size w u
 sl:IsSl b1/\IsSl b2
section
variable {w u:World} {W K wide:Nat} {L S X:List MR} {hs:List Nat} {lv sv hv b1 b2:Value}
theorem SW.below{u':World}(h:SW w u W K wide L S X hs lv sv hv b1 b2)(hb:Below u.heap.size u u'):SW w u' W K wide L S X hs lv sv hv b1 b2:=
 ⟨h.box.below hb h.box.lt,h.res.below hb h.res.lt,h.left.below hb,h.rows.below hb,h.heads.below hb,h.apart,h.okL.fr (Fr.of_below hb),h.okS.fr (Fr.of_below hb),h.okX.fr (Fr.of_below hb),h.base.trans (hb.mono h.base.size),h.sl⟩
theorem SW.alloc(h:SW w u W K wide L S X hs lv sv hv b1 b2)(o:Obj):SW w (u.alloc o) W K wide L S X hs lv sv hv b1 b2:=h.below (bR.alloc lZ _)
theorem SW.drew(h:SW w u W K wide L S X hs lv sv hv b1 b2):SW w u.drew W K wide L S X hs lv sv hv b1 b2:=h.below bR.drew
theorem row_stairs:70≠144:=by decide
theorem int_stairs:3≠144:=by decide
theorem int_row:3≠70:=by decide
theorem SW.left_only{u':World}{g:Nat}{L':List MR}{lv':Value}(h:SW w u W K wide L S X hs lv sv hv b1 b2)(hg:lv.ownBlock=some g)(hg':lv'.ownBlock=some g)(ho:Only g u u')(hl:Grow u' w.heap.size 70 1 IsSl lv' L'.length (L'.map MR.val))(hok:Oks u' W K L'):SW w u' W K wide L' S X hs lv' sv hv b1 b2:=by
 obtain⟨C,c1,c2⟩:=h.left.sb hg;have hfr:Fr u u':=Fr.of_only ho c1 (IsSl.plain c2);refine⟨h.box.only ho (h.box.unlike c1 row_stairs.symm),h.res.only ho (h.res.unlike c1 row_stairs.symm),hl,h.rows.keep fun k hk=>ho.block k (h.rows.lt hk).2 ?_,h.heads.keep fun k hk=>ho.block k (h.heads.lt hk).2 ?_,fun k hk=>?_,hok,h.okS.fr hfr,h.okX.fr hfr,h.base.trans (ho.below (h.left.lt hg).1 h.base.size),h.sl⟩
 · rintro rfl
   exact h.apart k hg hk
 · obtain⟨D,d1,_⟩:=h.heads.sb hk
   exact d1.unlike c1 int_row
 ·
  rw[hg'] at hk;rw[<-hk];exact h.apart g hg
theorem SW.app1{s:MR}{nb c:Nat}(h:SW w u W K wide L S X hs lv sv hv b1 b2)(hc:u.cell? ⟨nb,0,none⟩=some s.val)(hok:MOk u W K s)(hn:S.length<=1000)(ty:TypeId):
 ∃sv' u',(Builtin.append_ #[67,67] ty #[sv,.slice (some ⟨nb,0,none⟩) 1 c]).run Tryz.prog u=.ok sv' u'/\SW w u' W K wide L (S++ [s]) X hs lv sv' hv b1 b2/\u.heap.size<=u'.heap.size/\∀b i n,u.cell? ⟨b,i,none⟩=some (.int .i64 n)->u'.cell? ⟨b,i,none⟩=some (.int .i64 n):=by
 obtain⟨i0,hi,hz0,hz1,hz2⟩:=info_parts Qcy;obtain⟨sv',u',hr,hgr,hgw,hat⟩:=h.rows.app (P:=Tryz.prog) (ty:=ty) Tryz.underlying67 hi hz0 hz1 hz2 rfl (by decide) Qkz ⟨nb,0,none⟩ 1 c [s.val] rfl (fun j v hj=>by
  match j,hj with
  |0,hj=>
   obtain rfl:s.val=v:=by simpa using hj
   rw[Qay]
   exact hc) (fun v hv=>by obtain rfl:v=s.val:=by simpa using hv
                           rfl) (fun v hv=>by obtain rfl:v=s.val:=by simpa using hv
                                              exact⟨_,_,_,rfl⟩) (by omega) (by decide) h.base.size
 have hfr:Fr u u':=h.rows.only hgw (fun C=>IsSl.plain);have hkeep:∀b,b<u.heap.size->sv.ownBlock≠some b->u'.heap[b]?=u.heap[b]?:=fun b hb hne=>hgw.block b hb (fun e=>hne e.symm)
 have hne:∀{b:Nat} {t:TypeId} {C:Array Value},SB u b t C->t≠70->sv.ownBlock≠some b:=fun {b t C} hb ht hc=>by
  obtain⟨D,d1,_⟩:=h.rows.sb hc;exact hb.unlike d1 ht rfl
 have hsb:∀{b:Nat} {t:TypeId} {C:Array Value},SB u b t C->t≠70->SB u' b t C:=fun {b t C} hb ht=>by
  have h1:=hkeep b hb.lt (hne hb ht);unfold SB at hb ⊢;rw[h1];exact hb
 have hbase:Below w.heap.size w u':=h.base.grown hgw h.base.size (fun k hk=>(h.rows.lt hk).1);refine⟨sv',u',hr,⟨hsb h.box row_stairs.symm,hsb h.res row_stairs.symm,h.left.keep fun k hk=>hkeep k (h.left.lt hk).2 (h.apart k hk),by rw[List.map_append,List.length_append];exact hgr,h.heads.keep fun k hk=>?_,fun k hk=>?_,h.okL.fr hfr,fun r hr=>?_,h.okX.fr hfr,hbase,h.sl⟩,hgw.size,fun b i n hb=>?_⟩
 · obtain⟨D,d1,_⟩:=h.heads.sb hk
   exact hkeep k (h.heads.lt hk).2 (hne d1 int_row)
 ·
  rcases hat with e|e
  · rw[e]
    exact h.apart k hk
  ·
   rw[e];have:=(h.left.lt hk).2;intro e';injection e' with e'
   omega
 ·
  rcases List.mem_append.1 hr with hr|hr
  · exact(h.okS r hr).fr hfr
  · obtain rfl:r=s:=by simpa using hr
    exact hok.fr hfr
 ·
  refine(World.cell?_of_block (w:=u) (a:=⟨b,i,none⟩) (hkeep b (World.block_lt_of_cell? _ _ hb) fun hc=>?_)).trans hb;obtain⟨D,d1,d2⟩:=h.rows.sb hc;rw[d1.cell] at hb;obtain⟨_,_,_,e⟩:=d2 _ (mO (by rw[Array.getElem?_toList];exact hb));cases e
theorem SW.app2{k nb c:Nat}(h:SW w u W K wide L S X hs lv sv hv b1 b2)(hc:u.cell? ⟨nb,0,none⟩=some (.int .i64 (k:Nat)))(hn:hs.length<=1000)(ty:TypeId):
 ∃hv' u',(Builtin.append_ #[106,106] ty #[hv,.slice (some ⟨nb,0,none⟩) 1 c]).run Tryz.prog u=.ok hv' u'/\SW w u' W K wide L S X (hs++ [k]) lv sv hv' b1 b2:=by
 obtain⟨i0,hi,hz0,hz1,hz2⟩:=info_parts Qt8;obtain⟨hv',u',hr,hgr,hgw,hat⟩:=h.heads.app (P:=Tryz.prog) (ty:=ty) Tryz.underlying106 hi hz0 hz1 hz2 rfl (by decide) Qt7 ⟨nb,0,none⟩ 1 c [.int .i64 (k:Nat)] rfl (fun j v hj=>by
  match j,hj with
  |0,hj=>
   obtain rfl:_=v:=by simpa using hj
   rw[Qay]
   exact hc) (fun v hv=>by obtain rfl:v=_:=by simpa using hv
                           rfl) (fun v hv=>by obtain rfl:v=_:=by simpa using hv
                                              exact⟨_,rfl⟩) (by omega) (by decide) h.base.size
 have hfr:Fr u u':=h.heads.only hgw (fun C=>IsI.plain);have hkeep:∀b,b<u.heap.size->hv.ownBlock≠some b->u'.heap[b]?=u.heap[b]?:=fun b hb hne=>hgw.block b hb (fun e=>hne e.symm)
 have hne:∀{b:Nat} {t:TypeId} {C:Array Value},SB u b t C->t≠3->hv.ownBlock≠some b:=fun {b t C} hb ht hc=>by
  obtain⟨D,d1,_⟩:=h.heads.sb hc;exact hb.unlike d1 ht rfl
 have hsb:∀{b:Nat} {t:TypeId} {C:Array Value},SB u b t C->t≠3->SB u' b t C:=fun {b t C} hb ht=>by
  have h1:=hkeep b hb.lt (hne hb ht);unfold SB at hb ⊢;rw[h1];exact hb
 have hbase:Below w.heap.size w u':=h.base.grown hgw h.base.size (fun k hk=>(h.heads.lt hk).1);refine⟨hv',u',hr,⟨hsb h.box int_stairs.symm,hsb h.res int_stairs.symm,h.left.keep fun k hk=>?_,h.rows.keep fun k hk=>?_,?_,h.apart,h.okL.fr hfr,h.okS.fr hfr,h.okX.fr hfr,hbase,h.sl⟩⟩
 · obtain⟨D,d1,_⟩:=h.left.sb hk
   exact hkeep k (h.left.lt hk).2 (hne d1 int_row.symm)
 · obtain⟨D,d1,_⟩:=h.rows.sb hk
   exact hkeep k (h.rows.lt hk).2 (hne d1 int_row.symm)
 ·
  have e:headsV (hs++ [k])=headsV hs++ [.int .i64 (k:Nat)]:=by simp[headsV]
  rw[e,List.length_append];exact hgr
theorem SW.put(h:SW w u W K wide L S X hs lv sv hv b1 b2):SW w ((u.setCell ⟨w.heap.size+1,1,none⟩ sv).setCell ⟨w.heap.size+1,2,none⟩ hv) W K wide L S X hs lv sv hv sv hv:=by
 have ho:Only (w.heap.size+1) u ((u.setCell ⟨w.heap.size+1,1,none⟩ sv).setCell ⟨w.heap.size+1,2,none⟩ hv):=((Only.refl _ _).setCell _ _).setCell _ _;have hsl:∀{B:Nat} {e:TypeId} {sz:Nat} {Q:Value->Prop} {v:Value} {n:Nat} {xs:List Value},Grow u B e sz Q v n xs->∃x y z,v=Value.slice x y z:=fun {B e sz Q v n xs} hgr=>by
  rcases hgr.own.2 with ⟨rfl,_⟩|⟨g,cap,cur,rfl,_⟩
  · exact⟨_,_,_,rfl⟩
  · exact⟨_,_,_,rfl⟩
 have keep:∀{B:Nat} {e:TypeId} {sz:Nat} {Q:Value->Prop} {v:Value} {n:Nat} {xs:List Value},e≠144->Grow u B e sz Q v n xs->Grow ((u.setCell ⟨w.heap.size+1,1,none⟩ sv).setCell ⟨w.heap.size+1,2,none⟩ hv) B e sz Q v n xs:=fun {B e sz Q v n xs} he hgr=>hgr.keep fun k hk=>ho.block k (hgr.lt hk).2 (by
  obtain⟨D,d1,_⟩:=hgr.sb hk
  exact d1.unlike h.box he)
 have hb0:=(h.box.set 1 sv).set 2 hv;have hpl:Plain #[.int .i64 (wide:Int),b1,b2]:=fun v hv=>by
  obtain⟨x1,x2,x3,e1⟩:=h.sl.1;obtain⟨y1,y2,y3,e2⟩:=h.sl.2;subst e1;subst e2;simp at hv;rcases hv with rfl|rfl|rfl
  · exact⟨by simp,by simp⟩
  · exact⟨by simp,by simp⟩
  · exact⟨by simp,by simp⟩
 have hfr:Fr u ((u.setCell ⟨w.heap.size+1,1,none⟩ sv).setCell ⟨w.heap.size+1,2,none⟩ hv):=Fr.of_only ho h.box hpl;exact⟨by simpa using hb0,h.res.only ho (by omega),keep row_stairs h.left,keep row_stairs h.rows,keep int_stairs h.heads,h.apart,h.okL.fr hfr,h.okS.fr hfr,h.okX.fr hfr,h.base.trans (ho.below (Nat.le_succ _) h.base.size),hsl h.rows,hsl h.heads⟩
end
theorem Grow.mono{w:World}{B B':Nat}{e:TypeId}{sz:Nat}{K:Value->Prop}{v:Value}{n:Nat}{xs:List Value}(h:Grow w B e sz K v n xs)(hB:B'<=B):Grow w B' e sz K v n xs:=by
 refine⟨⟨h.own.1,?_⟩,h.all⟩;rcases h.own.2 with h1|⟨g,cap,cur,rfl,hb,h2⟩
 · exact .inl h1
 · exact .inr ⟨g,cap,cur,rfl,Nat.le_trans hB hb,h2⟩
theorem Grow.slice{w:World}{B sz:Nat}{e:TypeId}{K:Value->Prop}{v:Value}{n:Nat}{xs:List Value}(h:Grow w B e sz K v n xs):
 ∃a cap,v=.slice a n cap/\n<=cap/\CRow w a xs/\(0<n->∃g,a=some ⟨g,0,none⟩/\v.ownBlock=some g):=by
 rcases h.own.2 with ⟨rfl,rfl⟩|⟨g,cap,cur,rfl,hb,hg,hnc,hcm,hcs,htake⟩
 ·
  have:xs= []:=List.eq_nil_of_length_eq_zero (by simpa using h.own.1);subst this;exact⟨none,0,rfl,Nat.le_refl _,⟨fun j u hj=>by simp at hj⟩,fun h=>by omega⟩
 ·
  refine⟨some ⟨g,0,none⟩,cap,rfl,hnc,⟨fun j u hj=>⟨g,0,rfl,SB.lt hg,?_⟩⟩,fun _=>⟨g,rfl,rfl⟩⟩;have:=h.own.cells (g:=g) rfl j u hj;rw[Qay] at this;exact this
theorem Grow.mat{w:World}{B W K:Nat}{v:Value}{L:List MR}(h:Grow w B 70 1 IsSl v L.length (L.map MR.val))(hok:Oks w W K L):
 ∃a cap,v=.slice a L.length cap/\QMat w a cap W L/\(0<L.length->∃g,a=some ⟨g,0,none⟩):=by
 obtain⟨a,cap,e,hc,hr,hg⟩:=h.slice;refine⟨a,cap,e,⟨⟨hc,by rw[Qei];exact hr⟩,fun r hr=>⟨(hok r hr).row,(hok r hr).len⟩⟩,fun h0=>?_⟩;obtain⟨g,h1,_⟩:=hg h0;exact⟨g,h1⟩
theorem Grow.set{w:World}{B g cap:Nat}{e:TypeId}{K:Value->Prop}{n k:Nat}{xs:List Value}{x:Value}(h:Grow w B e 1 K (.slice (some ⟨g,0,none⟩) n cap) n xs)(hk:k<n)(hx:K x):Grow (w.setCell ⟨g,k,none⟩ x) B e 1 K (.slice (some ⟨g,0,none⟩) n cap) n (xs.set k x):=by
 obtain⟨hlen,hown⟩:=h.own;rcases hown with ⟨h1,_⟩|⟨g',cap',cur,h1,hb,hg,hnc,hcm,hcs,htake⟩
 · cases h1
 ·
  injection h1 with h1 _ h2
  injection h1 with h1
  injection h1 with h1 _ _
  subst h1;subst h2;obtain⟨C,hC,hall⟩:=h.all g rfl;rw[hg] at hC;injection hC with hC
  injection hC with hC _ _
  subst hC;have hsb:SB (w.setCell ⟨g,k,none⟩ x) g e (cur.setIfInBounds k x):=SB.set hg k x;refine⟨⟨by rw[List.length_set];exact hlen,.inr ⟨g,cap,_,rfl,hb,hsb,hnc,hcm,by simpa using hcs,?_⟩⟩,fun g' hg'=>?_⟩
  · rw[Array.toList_setIfInBounds,List.take_set,htake]
  ·
   have e:g=g':=by simpa [Value.ownBlock] using hg'
   subst e;refine⟨_,hsb,fun u hu=>?_⟩;rw[Array.toList_setIfInBounds] at hu;rcases List.mem_or_eq_of_mem_set hu with hu|rfl
   · exact hall u hu
   · exact hx
theorem Grow.free{w:World}{B g cap l:Nat}{e:TypeId}{K:Value->Prop}{n:Nat}{xs:List Value}(h:Grow w B e 1 K (.slice (some ⟨g,0,none⟩) l cap) n xs)(k:Nat):w.frozen? ⟨g,k,none⟩=false:=by
 obtain⟨C,hC,_⟩:=h.sb (g:=g) rfl;exact hC.free k
theorem Grow.cell{w:World}{B g cap l:Nat}{e:TypeId}{K:Value->Prop}{n k:Nat}{xs:List Value}{x:Value}(h:Grow w B e 1 K (.slice (some ⟨g,0,none⟩) l cap) n xs)(hk:xs[k]?=some x):w.cell? ⟨g,k,none⟩=some x:=by
 have:=h.own.cells (g:=g) rfl k x hk;rw[Qay,Nat.zero_add] at this;exact this
theorem SW.setL{w u:World}{W K wide g cap m n:Nat}{L S X:List MR}{hs:List Nat}{sv hv b1 b2:Value}{r:MR}(h:SW w u W K wide L S X hs (.slice (some ⟨g,0,none⟩) n cap) sv hv b1 b2)(hn:n=L.length)(hm:m<L.length)(hr:MOk u W K r):SW w (u.setCell ⟨g,m,none⟩ r.val) W K wide (L.set m r) S X hs (.slice (some ⟨g,0,none⟩) n cap) sv hv b1 b2:=by
 subst hn;have ho:Only g u (u.setCell ⟨g,m,none⟩ r.val):=(Only.refl _ _).setCell _ _;obtain⟨C,c1,c2⟩:=h.left.sb (g:=g) rfl;have hfr:=Fr.of_only ho c1 (IsSl.plain c2);refine h.left_only rfl rfl ho ?_ fun x hx=>?_
 · rw[List.length_set,List.map_set]
   exact h.left.set hm ⟨_,_,_,rfl⟩
 ·
  rcases List.mem_or_eq_of_mem_set hx with hx|rfl
  · exact(h.okL x hx).fr hfr
  · exact hr.fr hfr
theorem Qgc{α β:Type}(f:α->β):∀(l:List α) (i:Nat),(l.map f).eraseIdx i=(l.eraseIdx i).map f
 | [],_=>rfl
 |_ :: _,0=>rfl
 |x :: l,i+1=>by simp only[List.map_cons,List.eraseIdx_cons_succ];rw[Qgc f l i]
theorem Grow.form{w:World}{B sz:Nat}{e:TypeId}{K:Value->Prop}{v:Value}{n:Nat}{xs:List Value}(h:Grow w B e sz K v n xs){g:Nat}(hg:v.ownBlock=some g):∃cap,v=.slice (some ⟨g,0,none⟩) n cap:=by
 rcases h.own.2 with ⟨rfl,_⟩|⟨g',cap,cur,rfl,_⟩
 · simp[Value.ownBlock] at hg
 · obtain rfl:g'=g:=by simpa [Value.ownBlock] using hg
   exact⟨cap,rfl⟩
section
variable {w u:World} {W K wide:Nat} {L S X:List MR} {hs:List Nat} {lv sv hv b1 b2:Value}
theorem SW.erase{u':World}{g j:Nat}{v':Value}(h:SW w u W K wide L S X hs lv sv hv b1 b2)(hg:lv.ownBlock=some g)(hg':v'.ownBlock=some g)(ho:Only g u u')(hgr:Grow u' w.heap.size 70 1 IsSl v' (L.length - 1) ((L.map MR.val).eraseIdx j))(hj:j<L.length):
 ∃cap,v'=.slice (some ⟨g,0,none⟩) (L.eraseIdx j).length cap/\SW w u' W K wide (L.eraseIdx j) S X hs v' sv hv b1 b2:=by
 have hlen:(L.eraseIdx j).length=L.length - 1:=by rw[List.length_eraseIdx,if_pos hj]
 obtain⟨cap,e⟩:=hgr.form hg';obtain⟨C,c1,c2⟩:=h.left.sb hg;have hfr:Fr u u':=Fr.of_only ho c1 (IsSl.plain c2);refine⟨cap,by rw[hlen];exact e,h.left_only hg hg' ho ?_ fun r hr=>(h.okL r (List.mem_of_mem_eraseIdx hr)).fr hfr⟩;rw[hlen,<-Qgc];exact hgr
theorem SW.withX{Y:List MR}(h:SW w u W K wide L S X hs lv sv hv b1 b2)(hY:Oks u W K Y):SW w u W K wide L S Y hs lv sv hv b1 b2:=⟨h.box,h.res,h.left,h.rows,h.heads,h.apart,h.okL,h.okS,hY,h.base,h.sl⟩
variable {P:Program} {ops:Array Oper} {o:Oper} {a:Act} {K':Act->World->Prop} {Q:Exit->Act->World->Prop} {E:Prop}
end
theorem Grow.frac_ne{w:World}{B sz:Nat}{e:TypeId}{v:Value}{n:Nat}{xs:List Value}(h:Grow w B e sz IsSl v n xs){g b i:Nat}{x y z:Value}{q:Rat}(hg:v.ownBlock=some g)(hc:w.cell? ⟨b,i,none⟩=some x)(hf:FracV w (.agg #[x,y,z]) q):g≠b:=by
 rintro rfl;obtain⟨C,c1,c2⟩:=h.sb hg;rw[c1.cell] at hc;obtain⟨_,_,_,e1⟩:=c2 x (mO (by rw[Array.getElem?_toList];exact hc));obtain⟨neg,a,m,c,b,k,d,e2,_⟩:=hf;simp at e2;rw[e2.1] at e1;cases e1
theorem SW.done{w u:World}{W K wide:Nat}{L S X:List MR}{hs:List Nat}{lv sv hv b1 b2:Value}(h:SW w u W K wide L S X hs lv sv hv b1 b2)(x y z:Value):
 Grow (((u.setCell ⟨w.heap.size,0,none⟩ x).setCell ⟨w.heap.size,1,none⟩ y).setCell ⟨w.heap.size,2,none⟩ z) w.heap.size 70 1 IsSl sv S.length (S.map MR.val)/\Grow (((u.setCell ⟨w.heap.size,0,none⟩ x).setCell ⟨w.heap.size,1,none⟩ y).setCell ⟨w.heap.size,2,none⟩ z) w.heap.size 3 1 IsI hv hs.length (headsV hs)/\
  Oks (((u.setCell ⟨w.heap.size,0,none⟩ x).setCell ⟨w.heap.size,1,none⟩ y).setCell ⟨w.heap.size,2,none⟩ z) W K S/\Below w.heap.size w (((u.setCell ⟨w.heap.size,0,none⟩ x).setCell ⟨w.heap.size,1,none⟩ y).setCell ⟨w.heap.size,2,none⟩ z):=by
 have ho:Only w.heap.size u (((u.setCell ⟨w.heap.size,0,none⟩ x).setCell ⟨w.heap.size,1,none⟩ y).setCell ⟨w.heap.size,2,none⟩ z):=(((Only.refl _ _).setCell _ _).setCell _ _).setCell _ _;have hpl:Plain #[.int .i64 0,.slice none 0 0,.slice none 0 0]:=fun v hv=>by
  simp at hv;rcases hv with rfl|rfl
  · exact⟨by simp,by simp⟩
  · exact⟨by simp,by simp⟩
 refine⟨h.rows.keep fun k hk=>ho.block k (h.rows.lt hk).2 ?_,h.heads.keep fun k hk=>ho.block k (h.heads.lt hk).2 ?_,h.okS.fr (Fr.of_only ho h.res hpl),h.base.trans (ho.below lZ h.base.size)⟩
 · obtain⟨D,d1,_⟩:=h.rows.sb hk
   exact d1.unlike h.res row_stairs
 · obtain⟨D,d1,_⟩:=h.heads.sb hk
   exact d1.unlike h.res int_stairs
structure Going (K:Nat) (I:Nat->List Vec->List Vec->List Nat->Prop):Prop where
 fit:∀{c:Nat} {L S:List Vec} {hs:List Nat},I c L S hs->∀r,r∈ L->∀i,Fits (r i) K
 skip:∀{c:Nat} {L S:List Vec} {hs:List Nat},I c L S hs->(∀r,r∈ L->r c=0)->I (c+1) L S hs
 step:∀{c j:Nat} {L S:List Vec} {hs:List Nat} {s:Vec},I c L S hs->L[j]?=some s->s c≠0->I (c+1) ((L.eraseIdx j).map (lessBy c s)) (S++ [s]) (hs++ [c])
theorem Qt9{c:Nat}{s r:Vec}(h:r c=0):lessBy c s r=r:=by
 funext i;unfold lessBy;rw[h];grind
set_option maxRecDepth 100000 in
set_option maxHeartbeats 1000000 in
theorem Qub(a:Option Addr)(cap c:Nat)(hs:List Nat)(w:World)(h:CRow w a (headsV hs))(hl:hs.length<=1000):
 Calls Tryz.prog 141 #[.slice a hs.length cap,.int .i64 c] w fun e w'=>(∃v:Int,e=.returned (.int .i64 v)/\(0<=v↔c∈ hs))/\w'=w:=by
 have HH:=Hi h;clear h;go_enter Tryz.func141,Tryz.ntmps141;go_wp2_with fail;go_loopw [8] (fun i wr=>∃k:Nat,k<=hs.length/\i=.int .i64 k/\(∀j,j<k->hs[j]?≠some c)/\wr=w) (fun i _=>hs.length - (intOf i).toNat)
 case atStart=>exact⟨0,Nat.zero_le _,rfl,fun j hj=>by omega,rfl⟩
 case round=>
  obtain⟨k,hk,rfl,hno,rfl⟩:=hrel;have HN:=Hi hno;clear hno;by_cases hlt:k<hs.length
  ·
   obtain⟨x,hx⟩:∃x,hs[k]?=some x:=⟨hs[k],gE hlt⟩;obtain⟨b,off,rfl,hb,d⟩:=HH.out.cell k (.int .i64 (x:Nat)) (by simp[headsV,hx]);have HX:=Hi hx;have q1:((k:Int)<(hs.length:Int)):=by omega
   clear hx;by_cases hc:c=x
   ·
    subst hc;have q2:((c:Int) == (c:Int))=true:=by simp
    go_wp2;go_ret;exact⟨⟨k,rfl,⟨fun _=>mO HX.out,fun _=>by omega⟩⟩,rfl⟩
   ·
    have q2:((c:Int) == (x:Int))=false:=by rw[beq_eq_false_iff_ne];omega
    go_wp2;go_roundw
    case rel=>
     refine⟨k+1,by omega,by go_num,fun j hj=>?_,by first|rfl|trivial⟩;rcases Nat.lt_or_ge j k with h1|h1
     · exact HN.out j h1
     ·
      obtain rfl:j=k:=by omega
      rw[HX.out];intro e;injection e with e
      exact hc e.symm
    case measure=>simp[intOf];omega
  ·
   have hk':k=hs.length:=by omega
   subst hk';go_wp2;go_ret;refine⟨⟨-1,rfl,⟨fun h=>by omega,fun h=>?_⟩⟩,rfl⟩;obtain⟨j,hj⟩:=List.mem_iff_getElem?.1 h;exact absurd hj (HN.out j (gZ hj).1)
theorem Quc(a:Option Addr)(cap c:Nat)(hs:List Nat)(w:World)(h:CRow w a (headsV hs))(hl:hs.length<=1000):
 Calls Tryz.prog 99 #[.slice a hs.length cap,.int .i64 c] w fun e w'=>e=.returned (.bool (decide (c∈ hs)))/\w'=w:=by
 have HH:=Hi h;clear h;go_enter Tryz.func99,Tryz.ntmps99;go_wp2_with fail;go_fit (Qub a cap c hs w HH.out hl);rintro e w1 ⟨⟨v,rfl,hv⟩,rfl⟩;by_cases hc:c∈ hs
 ·
  have q:(0:Int)<=v:=hv.2 hc;have HC:=Hi hc;clear hv hc;go_wp2;go_ret;exact⟨by rw[decide_eq_true HC.out];rfl,rfl⟩
 ·
  have q:decide ((0:Int)<=v)=false:=decide_eq_false fun h=>hc (hv.1 h)
  have HC:=Hi hc;clear hv hc;go_wp2;go_ret;exact⟨by rw[decide_eq_false HC.out];rfl,rfl⟩
theorem Qk0:∀u:Value,u∈ (Value.agg #[.bool false,.slice none 0 0,.slice none 0 0]).cells.toList->True:=fun _ _=>trivial
theorem QRow.one{w:World}{a:Option Addr}{cap:Nat}{ts:List FE}(h:QRow w a cap ts):∀u,u∈ ts.flatMap FE.cells->u.oneCell'=true:=fun u hu=>by
 obtain⟨t,ht,hu⟩:=List.mem_flatMap.1 hu;obtain⟨h1,h2,h3⟩:=(h.ts t ht).1.one;simp[FE.cells] at hu;rcases hu with rfl|rfl|rfl
 · exact h1
 · exact h2
 · exact h3
set_option maxHeartbeats 1000000 in
theorem Qud(a:Option Addr)(cap:Nat)(ts:List FE)(w:World)(h:QRow w a cap ts)(hl:ts.length<=1000):
 Calls Tryz.prog 140 #[.slice a ts.length cap] w fun e w'=>(∃v,e=.returned v/\Grow w' w.heap.size 103 3 (fun _=>True) v ts.length (ts.flatMap FE.cells))/\Below w.heap.size w w':=by
 obtain⟨i0,hi,hz⟩:=Option.map_eq_some_iff.1 Qef;simp only[Prod.mk.injEq] at hz;obtain⟨hz0,hz1,hz2⟩:=hz;have hq:∀(w:World) (a:Option Addr) (n c n' c':Nat),(binOp .eql 70 (.slice a n c) (.slice none n' c')).run Tryz.prog w=.ok (.bool a.isNone) w:=fun w a n c n' c'=>Lib.run_eql_slice_nil w _ _ a n c n' c' Tryz.underlying70
 have H:=Hi h;clear h;cases a with
 |none=>
  have hrs:ts= []:=by
   cases ts with
   |nil=>rfl
   |cons r l=>
    obtain⟨b,off,e,_⟩:=H.out.at (i:=0) (e:=r) rfl;cases e
  subst hrs;clear hi hz0 hz1 hz2;go_enter Tryz.func140,Tryz.ntmps140;go_wp2;go_ret;exact⟨⟨_,rfl,Grow.nil _ _ _ _ _⟩,Below.refl _ _⟩
 |some ad=>
  obtain⟨W,hW⟩:=nm (w.alloc (.cells #[] 103));have hbW:Below w.heap.size w W:=by rw[<-hW];exact(Below.refl _ _).alloc lZ _
  have hg0:Grow W w.heap.size 103 3 (fun _=>True) (.slice (some ⟨w.heap.size,0,none⟩) 0 0) 0 []:=by rw[<-hW];exact Grow.made w _ _ _
  obtain⟨v',w',hr,hgr,hgw,hat⟩:=hg0.app (P:=Tryz.prog) (ty:=70) Tryz.underlying70 hi hz0 hz1 hz2 rfl (by decide) Qk0 ad ts.length cap (ts.flatMap FE.cells) (Qcg (c:=FE.cells) (sz:=3) (fun _=>rfl) ts) (fun j u hj=>by
   obtain⟨b,off,e,hb,hc⟩:=H.out.row.row.cell j u hj;cases e;rw[Qay]
   exact ce hbW hb hc) H.out.one (fun _ _=>trivial) (by omega) (by decide) hbW.size
  rw[<-hW] at hr;have HR:=Hi hr;have HG:=Hi hgr;have HB:=Hi (hbW.grown hgw hbW.size (fun k hk=>by simp[Value.ownBlock] at hk;omega));clear hr hgr hgw hat hg0 hbW hW hi hz0 hz1 hz2;go_enter Tryz.func140,Tryz.ntmps140;go_wp2_with (at_builtin;refine Qc1 _ rfl _ _ 70 70 rfl (.slice (some ⟨w.heap.size,0,none⟩) 0 0) (.slice (some ad) ts.length cap) _ _ rfl rfl HR.out ?_);go_wp2;go_ret;refine⟨⟨_,rfl,?_⟩,HB.out⟩;have:=HG.out;rw[Nat.zero_add,List.nil_append] at this;exact this
theorem Que{u:World}{B:Nat}{v:Value}{r:MR}{s:FE}{W K:Nat}(hg:Grow u B 103 3 (fun _=>True) v (W+1) (r.ts.flatMap FE.cells++FE.cells s))(hr:∀t,t∈ r.ts->FracV u (.agg #[t.x,t.y,t.z]) t.q/\Fits t.q t.k/\0<t.k)(hl:r.ts.length=W)(hk:∀t,t∈ r.ts->t.k<=K)(hs:FracV u (.agg #[s.x,s.y,s.z]) s.q/\Fits s.q s.k/\0<s.k)(hsk:s.k<=K):
 ∃r':MR,v=.slice r'.a r'.ts.length r'.cap/\MOk u (W+1) K r'/\r'.q=wider W r.q s.q:=by
 obtain⟨a,cap,rfl,hc,hcr,_⟩:=hg.slice;have hlen:(r.ts++ [s]).length=W+1:=by simp[hl]
 have hfl:(r.ts++ [s]).flatMap FE.cells=r.ts.flatMap FE.cells++FE.cells s:=by simp
 refine⟨⟨a,cap,r.ts++ [s]⟩,by simp[hl],⟨⟨⟨by rw[hlen];exact hc,by rw[hfl];exact hcr⟩,fun t ht=>?_⟩,hlen,fun t ht=>?_⟩,?_⟩
 ·
  rcases List.mem_append.1 ht with ht|ht
  · exact hr t ht
  · obtain rfl:t=s:=by simpa using ht
    exact hs
 ·
  rcases List.mem_append.1 ht with ht|ht
  · exact hk t ht
  · obtain rfl:t=s:=by simpa using ht
    exact hsk
 ·
  funext i;unfold wider;by_cases e:i=W
  ·
   rw[if_pos e,MR.q_at (e:=s)];subst e;rw[<-hl];simp
  ·
   rw[if_neg e];rcases Nat.lt_or_ge i W with h1|h1
   · obtain⟨t,ht⟩:∃t,r.ts[i]?=some t:=⟨r.ts[i]'(by omega),gE (by omega)⟩
     rw[MR.q_at ht,MR.q_at (e:=t) (by rw[List.getElem?_append_left (by omega)];exact ht)]
   · rw[MR.q_beyond (by rw[hlen];omega),MR.q_beyond (by omega)]
theorem Quf{P:Program}{ops:Array Oper}{o:Oper}{a:Act}{u:World}{K':Act->World->Prop}{Q:Exit->Act->World->Prop}{E:Prop}(hg:o.guard=none)(sl x:Operand){t e:TypeId}(hop:o.op=Op.call { callee:=Callee.builtin Builtin.append,args:=#[sl,x],argTypes:=#[t,t] })
 {B:Nat} {i:TypeInfo} {z:Value} {sz bytes:Nat} {K:Value->Prop} {v:Value} {n:Nat} {xs:List Value} {ad:Addr} {m c:Nat} (hs:a.eval sl=v) (hx:a.eval x=.slice (some ad) m c) (h:Grow u B e sz K v n xs)
 (ht:P.underlying t=some (.slice e)) (hi:P.info? e=some i) (hz:i.zero=some z) (hsize:i.size=sz) (hby:i.bytes=bytes) (hzs:z.cells.size=sz) (hsz:0<sz) (hKz:∀u,u∈ z.cells.toList->K u)
 (news:List Value) (hl:news.length=m*sz) (hnews:∀j w,news[j]?=some w->u.cell? (ad.add j)=some w) (h1:∀u,u∈ news->u.oneCell'=true) (hK:∀u,u∈ news->K u)
 (hnm:n+m<=1048576) (hb64:bytes<=1000) (hbase:B<=u.heap.size)
 (hc:∀v' u',Grow u' B e sz K v' (n+m) (xs++news)->u.grownBy u' v.ownBlock->(v'.ownBlock=v.ownBlock∨v'.ownBlock=some u.heap.size)->K' (a.put o.dst v') u'):
 if Region.wanted o (yielded ops a.tmps)=true then Oper.wp P o a u K' Q else E:=by
 obtain⟨v',u',hr,h2,h3,h4⟩:=h.app (P:=P) (ty:=o.type) ht hi hz hsize hby hzs hsz hKz ad m c news hl hnews h1 hK hnm hb64 hbase;exact Qbp hg sl x hop hs hx hr (hc v' u' h2 h3 h4)
theorem Qug{w:World}{b:Nat}{t:TypeId}{x y z:Value}(h:SB w b t #[x,y,z]):∀(j:Nat) (u:Value),[x,y,z][j]?=some u->w.cell? ((⟨b,0,none⟩:Addr).add j)=some u:=fun j u hj=>by
 rw[Qay,h.cell,Nat.zero_add,<-hj];simp
theorem Qej{w:World}{g k:Nat}{t:TypeId}{rx:List MR}{r0:MR}(h:SB w g t (rx.flatMap MR.cells).toArray)(hk:rx[k]?=some r0):w.cell? ⟨g,k,none⟩=some (.slice r0.a r0.ts.length r0.cap):=by
 rw[h.cell,Qei];simp[hk,MR.val]
theorem Quh{w:World}{g b i:Nat}{t:TypeId}{rx:List MR}{x y z:Value}{q:Rat}(h:SB w g t (rx.flatMap MR.cells).toArray)(hc:w.cell? ⟨b,i,none⟩=some x)(hf:FracV w (.agg #[x,y,z]) q):b≠g:=by
 rintro rfl;rw[h.cell] at hc;obtain⟨_,_,_,e1⟩:=mr_sl rx x (mO (by simpa using hc));obtain⟨neg,a,m,c,b,k,d,e2,_⟩:=hf;simp at e2;rw[e2.1] at e1;cases e1
theorem Qek{w u:World}(h:Below w.heap.size w u)(o:Obj):Below w.heap.size w (u.alloc o):=h.alloc h.size o
theorem Qel{w u:World}(h:Below w.heap.size w u):Below w.heap.size w u.drew:=h.drew
theorem Qui{w:World}{B:Nat}{e:TypeId}{sz:Nat}{K:Value->Prop}{v:Value}{n:Nat}{xs:List Value}(h:Grow w B e sz K v n xs)(o:Obj):Grow (w.alloc o) B e sz K v n xs:=h.below (bR.alloc lZ _)
theorem Quj{w:World}{B:Nat}{e:TypeId}{sz:Nat}{K:Value->Prop}{v:Value}{n:Nat}{xs:List Value}(h:Grow w B e sz K v n xs):Grow w.drew B e sz K v n xs:=h.below bR.drew
theorem Quk{w u:World}{a:Option Addr}{cap:Nat}{ts:List FE}(h:QRow w a cap ts)(hl:ts.length<=1000)(hu:Below w.heap.size w u):
 Calls Tryz.prog 140 #[.slice a ts.length cap] u fun e u'=>(∃v,e=.returned v/\Grow u' w.heap.size 103 3 (fun _=>True) v ts.length (ts.flatMap FE.cells))/\Below w.heap.size w u'/\∀b t C,SB u b t C->SB u' b t C:=by
 refine(Qud a cap ts u (h.below hu) hl).mono ?_;rintro e u' ⟨⟨v,rfl,hg⟩,hb⟩;exact⟨⟨v,rfl,hg.mono hu.size⟩,hu.trans (hb.mono hu.size),fun b t C hs=>hs.below hb hs.lt⟩
theorem Qul{ops:Array Oper}{o:Oper}{a:Act}{u:World}{K':Act->World->Prop}{Q:Exit->Act->World->Prop}{E:Prop}(hg:o.guard=none)(sl x:Operand)(hop:o.op=Op.call { callee:=Callee.builtin Builtin.append,args:=#[sl,x],argTypes:=#[70,70] })
 {w:World} {v:Value} {r:MR} {s:FE} {W K nb c:Nat} (he:a.eval sl=v) (hx:a.eval x=.slice (some ⟨nb,0,none⟩) 1 c) (hG:Grow u w.heap.size 103 3 (fun _=>True) v W (r.ts.flatMap FE.cells)) (hB:Below w.heap.size w u) (hC:SB u nb 103 #[s.x,s.y,s.z])
 (hr:QRow w r.a r.cap r.ts) (hl:r.ts.length=W) (hW:W<=1000) (hk:∀t,t∈ r.ts->t.k<=K) (hs:FracV w (.agg #[s.x,s.y,s.z]) s.q/\Fits s.q s.k/\0<s.k) (hsk:s.k<=K)
 (hK:∀r' u',MOk u' (W+1) K r'->r'.q=wider W r.q s.q->Below w.heap.size w u'->K' (a.put o.dst (.slice r'.a r'.ts.length r'.cap)) u'):
 if Region.wanted o (yielded ops a.tmps)=true then Oper.wp Tryz.prog o a u K' Q else E:=by
 obtain⟨i0,hi,hz⟩:=Option.map_eq_some_iff.1 Qef;simp only[Prod.mk.injEq] at hz;obtain⟨hz0,hz1,hz2⟩:=hz;obtain⟨o1,o2,o3⟩:=hs.1.one;refine Quf (P:=Tryz.prog) hg sl x hop he hx hG Tryz.underlying70 hi hz0 hz1 hz2 rfl (by decide) Qk0 [s.x,s.y,s.z] rfl (Qug hC) (fun u hu=>by
  simp at hu;rcases hu with rfl|rfl|rfl
  · exact o1
  · exact o2
  · exact o3) (fun _ _=>trivial) (by omega) (by decide) hB.size ?_
 intro v2 u2 hgr2 hgw2 hat2;have hb2:Below w.heap.size w u2:=hB.grown hgw2 hB.size (fun k hk=>(hG.lt hk).1);obtain⟨r',rfl,hok',hq'⟩:=Que (u:=u2) (r:=r) (s:=s) (W:=W) (K:=K) hgr2 (fun t ht=>⟨(hr.ts t ht).1.below hb2,(hr.ts t ht).2⟩) hl hk ⟨hs.1.below hb2,hs.2⟩ hsk;exact hK r' u2 hok' hq' hb2
set_option maxRecDepth 100000 in
set_option maxHeartbeats 4000000 in
theorem Qum(a a':Option Addr)(cap cap' W K:Nat)(rs:List MR)(ss:List FE)(w:World)(h:QMat w a cap W rs)(hk:∀r,r∈ rs->∀t,t∈ r.ts->t.k<=K)(h':QRow w a' cap' ss)(hk':∀t,t∈ ss->t.k<=K)(hss:ss.length=rs.length)(hl:rs.length<=1000)(hW:W<=1000):
 Calls Tryz.prog 98 #[.slice a rs.length cap,.slice a' rs.length cap'] w fun e w'=>(∃(g:Nat) (rs':List MR),e=.returned (.slice (some ⟨g,0,none⟩) rs.length rs.length)/\rs'.length=rs.length/\SB w' g 70 (rs'.flatMap MR.cells).toArray/\Oks w' (W+1) K rs'/\∀(i:Nat) (r:MR) (s:FE),rs[i]?=some r->ss[i]?=some s->∃r',rs'[i]?=some r'/\r'.q=wider W r.q s.q)/\Below w.heap.size w w':=by
 have HH:=Hi h;have HK:=Hi hk;have HH':=Hi h';have HK':=Hi hk';have HSL:=Hi hss;clear hss;have hmk:=fun w=>Qga rs.length (by omega) w
 obtain⟨MC,hMC⟩:=nm (((List.replicate rs.length MR.none).flatMap MR.cells).toArray);rw[hMC] at hmk;have HMC:=Hi hMC;clear h hk h' hk' hMC;obtain⟨i0,hi,hz⟩:=Option.map_eq_some_iff.1 Qef;simp only[Prod.mk.injEq] at hz;obtain⟨hz0,hz1,hz2⟩:=hz;have HI:=Hi hi;have HZ0:=Hi hz0;have HZ1:=Hi hz1;have HZ2:=Hi hz2;clear hi hz0 hz1 hz2;go_enter Tryz.func98,Tryz.ntmps98;go_wp2_with fail;clear hmk;obtain⟨g,hg⟩:=nm w.heap.size;obtain⟨V,hV⟩:=nm (w.alloc (.cells MC 70));have HB0:Hid (Below g w V):=Hi (by rw[<-hV,<-hg];exact(Below.refl _ _).alloc lZ _);have HQ0:Hid (SB V g 70 ((List.replicate rs.length MR.none).flatMap MR.cells).toArray):=Hi (by rw[<-hV,<-hg,HMC.out];exact SB.new w _ _)
 try rw[hV]
 try rw[hg]
 clear hV;go_loopw [13] (fun i wr=>∃(k:Nat) (rx:List MR),k<=rs.length/\i=.int .i64 k/\rx.length=rs.length/\SB wr g 70 (rx.flatMap MR.cells).toArray/\(∀(i:Nat) (r:MR) (s:FE),i<k->rs[i]?=some r->ss[i]?=some s->∃r',rx[i]?=some r'/\MOk wr (W+1) K r'/\r'.q=wider W r.q s.q)/\Below g w wr) (fun i _=>rs.length - (intOf i).toNat)
 case atStart=>exact⟨0,_,by omega,rfl,by simp,HQ0.out,fun i r s hi=>by omega,HB0.out⟩
 case round=>
  obtain⟨k,rx,hk,rfl,hrl,hsb,hall,hb⟩:=hrel;have HB:=Hi hb;have HSB:=Hi hsb;have HA:=Hi hall;have hgl:=hsb.lt;clear hb hsb hall;by_cases hlt:k<rs.length
  ·
   obtain⟨r,hr⟩:∃r,rs[k]?=some r:=⟨rs[k],gE hlt⟩;obtain⟨s,hs⟩:∃s,ss[k]?=some s:=⟨ss[k]'(by have:=HSL.out;omega),gE (by have:=HSL.out;omega)⟩;have hbw:Below w.heap.size w wr:=by rw[hg];exact HB.out
   obtain⟨fb,off,rfl,hfb,d⟩:=(HH.out.below hbw).at hr;obtain⟨hq,hrw⟩:=(HH.out.below hbw).get hr;obtain⟨sb,so,rfl,hsbl,d0,d1,d2⟩:=(HH'.out.below hbw).at hs;have HSV:=Hi ((HH'.out.below hbw).get hs);have HQ:=Hi hq;have HR:=Hi hr;have HSS:=Hi hs;have HRK:=Hi (HK.out r (mO hr));have HSK:=Hi (HK'.out s (mO hs));obtain⟨o1,o2,o3⟩:=HSV.out.1.one;have HS1:Hid (∀u,u∈ [s.x,s.y,s.z]->u.oneCell'=true):=Hi (fun u hu=>by
    simp at hu;rcases hu with rfl|rfl|rfl
    · exact o1
    · exact o2
    · exact o3)
   have q1:((k:Int)<(rs.length:Int)):=by omega
   clear hr hs hq hbw o1 o2 o3;have hr1000:r.ts.length<=1000:=by omega
   have HCL:=Hi (fun u=>Quk (u:=u) HQ.out hr1000);rw[hrw] at HCL;have HSS0:Hid (SB wr g 70 (rx.flatMap MR.cells).toArray):=HSB;obtain⟨r0,hr0⟩:∃r0,rx[k]?=some r0:=⟨rx[k]'(by omega),gE (by omega)⟩;have HR0:=Hi hr0;have D0:=Hi d0;have D1:=Hi d1;have D2:=Hi d2;clear hr0;go_wp2_with fail;go_region_held3 (fun v=>v.cell? ⟨sb,so+k*3,none⟩=some s.x/\v.cell? ⟨sb,so+k*3+1,none⟩=some s.y/\v.cell? ⟨sb,so+k*3+2,none⟩=some s.z) ((first|(simp [*];done)|go_keep)) (first
    |(
     go_at_call 140;apply cM;apply HCL.out;(focus(repeat(first|exact Below.refl _ _|apply Qek|apply Qel)));rintro e1 w1 ⟨⟨v1,rfl,hg1⟩,hb1,hk1⟩;have HB1:=Hi hb1;have HG1:=Hi hg1;have HK1:=Hi hk1;clear hg1 hb1 hk1;have d0:=ce HB1.out hsbl D0.out;have d1:=ce HB1.out hsbl D1.out;have d2:=ce HB1.out hsbl D2.out;have hw1:=HB1.out.size
     skip)
    |(
     refine Qul rfl (.tmp 21) (.tmp 26) rfl (w:=wr) (v:=v1) (r:=r) (s:=s) (W:=W) (K:=K) rfl rfl ?hG ?hB ?hC HQ.out hrw hW HRK.out HSV.out HSK.out ?_
     case hG=>(focus(repeat(first|exact HG1.out|apply Qui|apply Quj)))
     case hB=>(focus(repeat(first|exact HB1.out|apply Qek|apply Qel)))
     case hC=>(first|exact SB.new _ _ _|exact HK1.out _ _ _ (SB.new _ _ _))
     intro r' w2 hok' hq' hb2;have HB2:=Hi hb2;have HOK:=Hi hok';have HQ':=Hi hq';clear hok' hq' hb2;have HSB2:=Hi (HSB.out.below HB2.out HSB.out.lt);have d0:=ce HB2.out hsbl D0.out;have d1:=ce HB2.out hsbl D1.out;have d2:=ce HB2.out hsbl D2.out;have f0:=HSB2.out.free k;have t0:=Qej HSB2.out HR0.out;have nsg:=Quh HSB2.out d0 (HSV.out.1.below HB2.out);have nsg':=nsg.symm
     skip)
    |fail)
   all_goals
    go_wp2_with fail;have ho:Only g w2 (w2.setCell ⟨g,k,none⟩ (.slice r'.a r'.ts.length r'.cap)):=(Only.refl _ _).setCell _ _;have hfr:Fr w2 (w2.setCell ⟨g,k,none⟩ (.slice r'.a r'.ts.length r'.cap)):=Fr.of_only ho HSB2.out (IsSl.plain fun u hu=>mr_sl rx u (by simpa using hu));refine⟨⟨k+1,rx.set k r',by omega,by go_num,by rw[List.length_set];exact hrl,?_,?_,(HB.out.trans (HB2.out.mono (Nat.le_of_lt hgl))).setCell (p:=⟨g,k,none⟩) lZ _⟩,?_⟩
    ·
     have:=HSB2.out.set k (.slice r'.a r'.ts.length r'.cap);rw[Qeh]
     simpa using this
    ·
     intro i x y hi hx hy;rcases Nat.lt_or_ge i k with h1|h1
     · obtain⟨z,z1,z2,z3⟩:=HA.out i x y h1 hx hy
       exact⟨z,by rw[List.getElem?_set_ne (by omega)];exact z1,(z2.fr (Fr.of_below HB2.out)).fr hfr,z3⟩
     ·
      obtain rfl:i=k:=by omega
      obtain rfl:=Option.some.inj (HR.out.symm.trans hx);obtain rfl:=Option.some.inj (HSS.out.symm.trans hy);exact⟨r',by rw[List.getElem?_set_self (by omega)],HOK.out.fr hfr,HQ'.out⟩
    · simp[intOf]
      omega
  ·
   have hk':k=rs.length:=by omega
   subst hk';go_wp2;go_ret;rw[hg];refine⟨⟨g,rx,rfl,hrl,HSB.out,fun r hr=>?_,fun i r s hr hs=>?_⟩,HB.out⟩
   ·
    obtain⟨i,hi⟩:=List.mem_iff_getElem?.1 hr;have hil:=(gZ hi).1;obtain⟨z,z1,z2,_⟩:=HA.out i (rs[i]'(by omega)) (ss[i]'(by have:=HSL.out;omega)) (by omega) (gE (by omega)) (gE (by have:=HSL.out;omega));obtain rfl:=Option.some.inj (hi.symm.trans z1);exact z2
   · obtain⟨z,z1,_,z3⟩:=HA.out i r s (gZ hr).1 hr hs
     exact⟨z,z1,z3⟩
def redFits(K:Nat)(r:Vec):List Vec->List Nat->Prop
 |t :: T,h :: hs=>(∀i,Fits (r i) K)/\redFits K (fun i=>r i - t i*r h) T hs
 |_,_=>∀i,Fits (r i) K
def clnFits(K:Nat):List Vec->List Nat->Prop
 |r :: S,h :: hs=>clnFits K S hs/\redFits K (fun i=>r i / r h) (cln S hs) hs
 |_,_=>True
theorem redFits.here{K:Nat}{r:Vec}:∀{T:List Vec} {hs:List Nat},redFits K r T hs->∀i,Fits (r i) K
 |_ :: _,_ :: _,h=>h.1
 | [],_,h=>by unfold redFits at h;exact h
 |_ :: _,[],h=>by unfold redFits at h;exact h
theorem clnFits.drop{K:Nat}:∀{S:List Vec} {hs:List Nat} (i:Nat),clnFits K S hs->clnFits K (S.drop i) (hs.drop i)
 |_,_,0,h=>h
 |r :: S,h :: hs,i+1,k=>clnFits.drop i k.1
 | [],_,i+1,h=>by rw[List.drop_nil];trivial
 |r :: S,[],i+1,h=>by
  rw[List.drop_nil];generalize List.drop (i+1) (r :: S)=T;cases T<;>simp[clnFits]
structure CW (w u:World) (B W K:Nat) (S:List MR) (hs:List Nat) (wd sv hv:Value):Prop where
 box:SB u w.heap.size 144 #[wd,sv,hv]
 rows:Grow u B 70 1 IsSl sv S.length (S.map MR.val)
 heads:Grow u B 3 1 IsI hv hs.length (headsV hs)
 ok:Oks u W K S
 base:∀k,k<w.heap.size->sv.ownBlock≠some k->u.heap[k]?=w.heap[k]?
 out:u.os=w.os/\u.tape=w.tape/\u.output=w.output/\w.heap.size<=u.heap.size
section
variable {w u:World} {B W K:Nat} {S:List MR} {hs:List Nat} {wd sv hv:Value}
theorem CW.below{u':World}(h:CW w u B W K S hs wd sv hv)(hb:Below u.heap.size u u'):CW w u' B W K S hs wd sv hv:=
 ⟨h.box.below hb h.box.lt,h.rows.below hb,h.heads.below hb,h.ok.fr (Fr.of_below hb),fun k hk hne=>(hb.block k (Nat.lt_of_lt_of_le hk h.out.2.2.2)).trans (h.base k hk hne),⟨hb.os.trans h.out.1,hb.tape.trans h.out.2.1,hb.output.trans h.out.2.2.1,Nat.le_trans h.out.2.2.2 hb.size⟩⟩
theorem CW.set{g cap m n:Nat}{r:MR}(h:CW w u B W K S hs wd (.slice (some ⟨g,0,none⟩) n cap) hv)(hn:n=S.length)(hm:m<S.length)(hr:MOk u W K r):CW w (u.setCell ⟨g,m,none⟩ r.val) B W K (S.set m r) hs wd (.slice (some ⟨g,0,none⟩) n cap) hv:=by
 subst hn;have ho:Only g u (u.setCell ⟨g,m,none⟩ r.val):=(Only.refl _ _).setCell _ _;obtain⟨C,c1,c2⟩:=h.rows.sb (g:=g) rfl;have hfr:=Fr.of_only ho c1 (IsSl.plain c2);refine⟨h.box.only ho (h.box.unlike c1 row_stairs.symm),?_,h.heads.keep fun k hk=>ho.block k (h.heads.lt hk).2 ?_,fun x hx=>?_,fun k hk hne=>?_,⟨ho.os.trans h.out.1,ho.tape.trans h.out.2.1,ho.output.trans h.out.2.2.1,Nat.le_trans h.out.2.2.2 ho.size⟩⟩
 · rw[List.length_set,List.map_set]
   exact h.rows.set hm ⟨_,_,_,rfl⟩
 · obtain⟨D,d1,_⟩:=h.heads.sb hk
   exact d1.unlike c1 int_row
 ·
  rcases List.mem_or_eq_of_mem_set hx with hx|rfl
  · exact(h.ok x hx).fr hfr
  · exact hr.fr hfr
 ·
  refine(ho.block k (Nat.lt_of_lt_of_le hk h.out.2.2.2) (fun e=>hne ?_)).trans (h.base k hk hne);subst e;rfl
end
theorem Qun(x:Rat):(0:Rat) / x=0:=by grind
theorem Quo(x:Rat):(0:Rat) - 0*x=0:=by grind
theorem Grow.crow{w:World}{B sz l cap:Nat}{e:TypeId}{K:Value->Prop}{a:Option Addr}{n:Nat}{xs:List Value}(h:Grow w B e sz K (.slice a l cap) n xs):CRow w a xs:=by
 obtain⟨a',cap',e,_,hr,_⟩:=h.slice;injection e with e1 _ _
 rw[e1];exact hr
theorem Qup{r t:Vec}{h:Nat}{T:List Vec}{hs:List Nat}(h0:r h=0):red r (t :: T) (h :: hs)=red r T hs:=by
 have e:(fun i=>r i - t i*r h)=r:=by funext i;rw[h0];grind
 simp only[red];rw[e]
theorem redFits.next{K:Nat}{r t:Vec}{h:Nat}{T:List Vec}{hs:List Nat}(k:redFits K r (t :: T) (h :: hs)):redFits K (fun i=>r i - t i*r h) T hs:=k.2
theorem redFits.skip{K:Nat}{r t:Vec}{h:Nat}{T:List Vec}{hs:List Nat}(k:redFits K r (t :: T) (h :: hs))(h0:r h=0):redFits K r T hs:=by
 have e:(fun i=>r i - t i*r h)=r:=by funext i;rw[h0];grind
 have:=k.2;rw[e] at this;exact this
theorem Qc0{α:Type}{l:List α}{i:Nat}{x:α}(h:l[i]?=some x):l.drop i=x :: l.drop (i+1):=by
 obtain⟨h1,h2⟩:=gZ h;rw[List.drop_eq_getElem_cons h1,h2]
theorem Quq{K:Nat}{S Sx:List MR}{hs:List Nat}{j h:Nat}{r:MR}(hl:S.length=hs.length)(hr:S[j]?=some r)(hh:hs[j]?=some h)(hx:(Sx.drop (j+1)).map MR.q=cln ((S.map MR.q).drop (j+1)) (hs.drop (j+1)))(hf:clnFits K (S.map MR.q) hs):
 cln ((S.map MR.q).drop j) (hs.drop j)=red (fun i=>r.q i / r.q h) ((Sx.drop (j+1)).map MR.q) (hs.drop (j+1)) :: (Sx.drop (j+1)).map MR.q/\redFits K (fun i=>r.q i / r.q h) ((Sx.drop (j+1)).map MR.q) (hs.drop (j+1)):=by
 have h1:(S.map MR.q).drop j=r.q :: (S.map MR.q).drop (j+1):=Qc0 (by rw[List.getElem?_map,hr];rfl);have h2:=Qc0 hh;have h3:=hf.drop j;rw[h1,h2] at h3;rw[h1,h2,hx];exact⟨rfl,h3.2⟩
end Go.Proofs.YtfpcipgoedifaaaGreatDoor
