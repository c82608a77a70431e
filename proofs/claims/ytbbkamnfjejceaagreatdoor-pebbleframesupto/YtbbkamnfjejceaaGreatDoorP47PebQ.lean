/- the closed fact of the pebble laws: plays. -/
import Derived.Test.YtbbkamnfjejceaaGreatDoorP46PebH
namespace Go.Proofs.YtbbkamnfjejceaaGreatDoor.Peb
open Go.RowKit Go.MapKept
set_option linter.unusedVariables false
set_option linter.unusedSimpArgs false
def BLst(w:World)(v:Value)(l:List Bool):Prop:=∃a cap,v=.slice a l.length cap∧∀i q,l[i]?=some q→∃b off,a=some ⟨b,off,none⟩∧b<w.heap.size∧w.cell? ⟨b,off+i,none⟩=some (.bool q)
set_option maxRecDepth 100000 in
theorem ref_Many(v:Value)(l:List Bool)(w:World)(h:BLst w v l)(hl:l.length≤45):
 Calls Tryz.prog 31 #[v] w fun e w'=>e=.returned (.int .i64 (l.countP id:Nat))∧w'=w:=by
 obtain⟨a,cap,rfl,hc⟩:=h;have HC:=Hi hc;clear hc;go_enter Tryz.func31,Tryz.ntmps31;go_wp2_with fail;go_loopw [8,3] (fun iv cv wi=>∃i:Nat,i≤l.length∧iv=.int .i64 i∧cv=.int .i64 ((l.take i).countP id:Nat)∧(l.take i).countP id≤i∧wi=w) (fun iv _ _=>l.length - (intOf iv).toNat)
 case atStart=>exact⟨0,by omega,rfl,rfl,Nat.le_refl _,rfl⟩
 case round=>
  obtain⟨i,hi,rfl,rfl,hci,rfl⟩:=hrel;obtain⟨y,hy⟩:∃y,(l.take i).countP id=y:=⟨_,rfl⟩;rw[hy] at hci ⊢;have HY:=Hi hy;clear hy;by_cases hie:i<l.length
  ·
   obtain⟨f,hf⟩:∃f,l[i]?=some f:=⟨l[i],List.getElem?_eq_getElem hie⟩;obtain⟨b,off,rfl,hb,d0⟩:=HC.out i f hf;have q3:((i:Int)<(l.length:Int)):=by omega
   have HCN:Hid ((l.take (i+1)).countP id=y+f.toNat):=Hi (by rw[List.take_add_one,hf,List.countP_append,HY.out];cases f<;>rfl);clear hf;cases f with
   |true=>
    go_wp2;go_roundw
    case rel=>exact⟨i+1,by omega,by go_num,by rw[HCN.out];rfl,by rw[HCN.out];simp;omega,by first|rfl|trivial⟩
    case measure=>simp[intOf];omega
   |false=>
    go_wp2;go_roundw
    case rel=>exact⟨i+1,by omega,by go_num,by rw[HCN.out];rfl,by rw[HCN.out];simp;omega,by first|rfl|trivial⟩
    case measure=>simp[intOf];omega
  ·
   obtain rfl:i=l.length:=by omega
   have HY2:Hid (l.countP id=y):=Hi (by rw[←HY.out,List.take_length]);go_wp2;go_ret;exact⟨by rw[HY2.out];rfl,rfl⟩
end Go.Proofs.YtbbkamnfjejceaaGreatDoor.Peb
namespace Go.Proofs.YtbbkamnfjejceaaGreatDoor.Peb
open Go.RowKit Go.MapKept
set_option linter.unusedVariables false
set_option linter.unusedSimpArgs false
theorem BRow.lst{w:World}{B:Nat}{v:Value}{l:List Bool}(h:BRow w B v l):BLst w v l:=by
 rcases h.at with ⟨rfl,rfl⟩|⟨g,cap,rfl,_,hg,_,_,hc⟩
 · exact⟨none,0,rfl,fun i q hi=>by simp at hi⟩
 · exact⟨_,cap,rfl,fun i q hi=>⟨g,0,rfl,hg,by rw[Nat.zero_add];exact hc i q hi⟩⟩
theorem BLst.below{w w':World}{v:Value}{l:List Bool}(h:BLst w v l)(hb:Below w.heap.size w w'):BLst w' v l:=by
 obtain⟨a,cap,rfl,hc⟩:=h;refine⟨a,cap,rfl,fun i q hi=>?_⟩;obtain⟨b,off,h1,h2,h3⟩:=hc i q hi;exact⟨b,off,h1,Nat.lt_of_lt_of_le h2 hb.size,(hb.cell (p:=⟨b,off+i,none⟩) h2).trans h3⟩
set_option maxRecDepth 100000 in
theorem Qnh(u v:Value)(l:List Bool)(w:World)(hu:BLst w u l)(hv:BLst w v l)(hs:l.length≤45):
 Calls Tryz.prog 73 #[u,v] w fun e w'=>e=.returned (.bool true)∧Below w.heap.size w w':=by
 obtain⟨a,c,rfl,hc⟩:=hu;obtain⟨b,d,rfl,hd⟩:=hv;have HC:=Hi hc;have HD:=Hi hd;clear hc hd;go_enter Tryz.func73,Tryz.ntmps73;go_wp2_with fail;go_loopw [13] (fun iv wr=>∃i:Nat,i≤l.length∧iv=.int .i64 i∧Below w.heap.size w wr) (fun iv _=>l.length - (intOf iv).toNat)
 case atStart=>exact⟨0,by omega,rfl,Below.refl _ _⟩
 case round=>
  obtain⟨i,hi,rfl,hb⟩:=hrel;have HB:=Hi hb;by_cases hie:i<l.length
  ·
   obtain⟨f,hf⟩:∃f,l[i]?=some f:=⟨l[i],List.getElem?_eq_getElem hie⟩;obtain⟨b1,o1,rfl,h1,d1⟩:=HC.out i f hf;obtain⟨b2,o2,rfl,h2,d2⟩:=HD.out i f hf;have d1':wr.cell? ⟨b1,o1+i,none⟩=some (.bool f):=(hb.cell (p:=⟨b1,o1+i,none⟩) h1).trans d1;have d2':wr.cell? ⟨b2,o2+i,none⟩=some (.bool f):=(hb.cell (p:=⟨b2,o2+i,none⟩) h2).trans d2;have q3:((i:Int)<(l.length:Int)):=by omega
   clear hf d1 d2 hb h1 h2;go_wp2_with fail;go_region;go_wp2;go_roundw
   case rel=>exact⟨i+1,by omega,by go_num,HB.out.drew⟩
   case measure=>simp[intOf];omega
  ·
   obtain rfl:i=l.length:=by omega
   clear hb;go_wp2;go_ret;exact⟨rfl,HB.out⟩
def eCells(e:Int × Int):List Value:=[.int .i64 e.1,.int .i64 e.2]
def EOwn(w:World)(B:Nat)(v:Value)(es:List (Int × Int)):Prop:=w.ownsRow B 69 2 v es.length (es.flatMap eCells)
theorem Qcs(es:List (Int × Int)):(es.flatMap eCells).length=es.length*2:=by
 induction es with
 |nil=>rfl
 |cons e l ih=>rw[List.flatMap_cons,List.length_append,ih,List.length_cons];simp[eCells];omega
theorem Qhj:∀(es:List (Int × Int)) (i:Nat) (e:Int × Int),es[i]?=some e→(es.flatMap eCells)[i*2]?=some (.int .i64 e.1)∧(es.flatMap eCells)[i*2+1]?=some (.int .i64 e.2)
 | [],i,e,h=>by simp at h
 |x :: l,0,e,h=>by
  simp at h;subst h;exact⟨rfl,rfl⟩
 |x :: l,i+1,e,h=>by
  have:=Qhj l i e (by simpa using h);rw[List.flatMap_cons];rw[show (i+1)*2=i*2+1+1 by omega]
  simpa [eCells] using this
theorem Qni(es:List (Int × Int)):∀u∈ es.flatMap eCells,u.oneCell'=true:=by
 intro u hu;obtain⟨e,_,h⟩:=List.mem_flatMap.1 hu;simp[eCells] at h;rcases h with rfl|rfl<;>rfl
theorem EOwn.row{w:World}{B:Nat}{v:Value}{es:List (Int × Int)}(h:EOwn w B v es):∃a cap,v=.slice a es.length cap∧ERow w a cap es∧es.length≤maxLen:=by
 rcases h.2 with ⟨h1,h2⟩|⟨g,cap,cur,rfl,hb,hg,hn,hm,hs,ht⟩
 ·
  have:=List.eq_nil_of_length_eq_zero h2;subst this;exact⟨none,0,h1,⟨Nat.le_refl _,fun i e hi=>by simp at hi⟩,by simp⟩
 ·
  have hlt:g<w.heap.size:=(Array.getElem?_eq_some_iff.1 hg).1;have hc:∀j u,(es.flatMap eCells)[j]?=some u→w.cell? ⟨g,j,none⟩=some u:=fun j u hj=>by
   have hjl:=(List.getElem?_eq_some_iff.1 hj).1;rw[Qcs] at hjl;rw[←ht,List.getElem?_take_of_lt hjl,Array.getElem?_toList] at hj;rw[SB.cell (t:=69) hg];exact hj
  refine⟨_,cap,rfl,⟨hn,fun i e hi=>?_⟩,Nat.le_trans hn hm⟩;obtain⟨h1,h2⟩:=Qhj es i e hi;exact⟨g,0,rfl,hlt,by rw[Nat.zero_add];exact hc _ _ h1,by rw[Nat.zero_add];exact hc _ _ h2⟩
theorem Qhk:(Tryz.prog.info? 69).map (fun i=>(i.zero,i.size,i.bytes))=some (some (.agg #[.int .i64 0,.int .i64 0]),2,16):=by kernel_rfl
theorem EOwn.app{w:World}{B:Nat}{v:Value}{es:List (Int × Int)}(h:EOwn w B v es)(a:Addr)(fs:List (Int × Int))(hx:∀j u,(fs.flatMap eCells)[j]?=some u→w.cell? (a.add j)=some u)(hl:es.length+fs.length≤100000000)(hB:B≤w.heap.size)(c:Nat):
 ∃v' w',appRun Tryz.prog 66 66 v (.slice (some a) fs.length c) w=.ok v' w'∧EOwn w' B v' (es++fs)∧w.grownBy w' v.ownBlock∧(v'.ownBlock=v.ownBlock∨v'.ownBlock=some w.heap.size):=by
 obtain⟨i0,hi,hz0,hz1,hz2⟩:=info_parts Qhk;obtain⟨v',w',h1,h2,h3,h4,h5⟩:=run_append_own_at (P:=Tryz.prog) w B 66 66 69 i0 (.agg #[.int .i64 0,.int .i64 0]) 2 16 Tryz.underlying66 hi hz0 hz1 hz2 rfl (by decide) v es.length (es.flatMap eCells) h a fs.length c (fs.flatMap eCells) (Qcs fs) hx (Qni fs) (by unfold maxLen;omega) (by omega) hB;refine⟨v',w',h1,?_,h3,h5⟩;unfold EOwn;rw[List.length_append,List.flatMap_append];exact h2
theorem EOwn.cells{w:World}{B g n cap:Nat}{es:List (Int × Int)}(h:EOwn w B (.slice (some ⟨g,0,none⟩) n cap) es):∀j u,(es.flatMap eCells)[j]?=some u→w.cell? ((⟨g,0,none⟩:Addr).add j)=some u:=World.ownsRow.cells (g:=g) h rfl
theorem EOwn.appFull{w:World}{B g cap:Nat}{es:List (Int × Int)}(h:EOwn w B (.slice (some ⟨g,0,none⟩) es.length cap) es)(hcap:cap=es.length)(a:Addr)(fs:List (Int × Int))(hf:0<fs.length)(hx:∀j u,(fs.flatMap eCells)[j]?=some u→w.cell? (a.add j)=some u)(hl:es.length+fs.length≤100000000)(hB:B≤w.heap.size)(c:Nat):
 ∃v' w',appRun Tryz.prog 66 66 (.slice (some ⟨g,0,none⟩) es.length cap) (.slice (some a) fs.length c) w=.ok v' w'∧EOwn w' B v' (es++fs)∧Below w.heap.size w w':=by
 obtain⟨v',w',h1,h2,h3,_⟩:=h.app a fs hx hl hB c;refine⟨v',w',h1,h2,?_⟩;obtain⟨i0,hi,hz0,hz1,hz2⟩:=info_parts Qhk;have h4:=run_append_grow (P:=Tryz.prog) w 66 66 69 i0 (.agg #[.int .i64 0,.int .i64 0]) Tryz.underlying66 hi hz0 ⟨g,0,none⟩ es.length cap (es.flatMap eCells) (by rw[hz1];exact Qcs es) h.cells a fs.length c (fs.flatMap eCells) (by rw[hz1];exact Qcs fs) hx (by omega) (by omega) (by rw[hz2];exact growslice_fits (by omega) (by omega));unfold appRun at h1;rw[h1] at h4;injection h4 with _ e2
 rw[e2];exact((Below.refl _ _).drew).alloc (Nat.le_refl _) _
theorem EOwn.keep{w w':World}{B:Nat}{v:Value}{es:List (Int × Int)}(h:EOwn w B v es)(hk:∀g,v.ownBlock=some g→w'.heap[g]?=w.heap[g]?):EOwn w' B v es:=by
 refine⟨h.1,?_⟩;rcases h.2 with h1|⟨g,cap,cur,rfl,hb,hg,h2⟩
 · exact .inl h1
 · exact .inr ⟨g,cap,cur,rfl,hb,by rw[hk g rfl];exact hg,h2⟩
theorem EOwn.block{w:World}{B:Nat}{v:Value}{es:List (Int × Int)}(h:EOwn w B v es){g:Nat}(hg:v.ownBlock=some g):B≤g∧∃C,SB w g 69 C:=by
 rcases h.2 with ⟨rfl,_⟩|⟨g',cap,cur,rfl,hb,hg',_⟩
 · simp[Value.ownBlock] at hg
 ·
  have e:g'=g:=by simpa [Value.ownBlock] using hg
  subst e;exact⟨hb,cur,hg'⟩
theorem EOwn.below{w w':World}{B:Nat}{v:Value}{es:List (Int × Int)}(h:EOwn w B v es)(hb:Below w.heap.size w w'):EOwn w' B v es:=h.keep (fun g hg=>by
 obtain⟨_,C,hC⟩:=h.block hg
 exact hb.block g hC.lt)
theorem EOwn.nil(w:World)(B:Nat):EOwn w B (.slice none 0 0) []:=World.ownsRow_nil w B 69 2
end Go.Proofs.YtbbkamnfjejceaaGreatDoor.Peb
namespace Go.Proofs.YtbbkamnfjejceaaGreatDoor.Peb
open Go.RowKit Go.MapKept
set_option linter.unusedVariables false
set_option linter.unusedSimpArgs false
theorem Chk_zero{n:Int}{es:List (Int × Int)}{c at_:Int}(h:ChkSays n es c at_)(h1:1≤n)(h2:n≤10)(h3:es.length≤45)(hall:∀i x,es[i]?=some x→edgeC n es i x=0):c=0∧at_=0:=by
 rcases h with ⟨h,_,_⟩|⟨_,_,_,h⟩
 · omega
 ·
  rcases h with ⟨k,e,hk,_,he,hc,_⟩|⟨_,h,h'⟩
  · rw[hall k e hk] at he
    exact absurd he.symm hc
  · exact⟨h,h'⟩
def okE(n:Int)(es:List (Int × Int)):Bool:=(List.range es.length).all (fun i=>match es[i]? with|some x=>edgeC n es i x == 0|none=>true)
theorem Qed{n:Int}{es:List (Int × Int)}(h:okE n es=true):∀i x,es[i]?=some x→edgeC n es i x=0:=by
 intro i x hx;unfold okE at h;have:=List.all_eq_true.1 h i (List.mem_range.2 (List.getElem?_eq_some_iff.1 hx).1);rw[hx] at this
 simpa using this
def sq:List (Int × Int):=[(0,1),(1,2),(2,3),(3,0)]
def sq5:List (Int × Int):=[(0,1),(1,2),(2,3),(3,0),(0,2)]
def sq6:List (Int × Int):=[(0,1),(1,2),(2,3),(3,0),(0,2),(1,3)]
theorem ok_sq:okE 4 sq=true:=by decide
theorem Qnj:okE 4 sq5=true:=by decide
theorem Qnk:okE 4 sq6=true:=by decide
theorem Qnl:Sparse 4 [((0,2):Edge),(3,0),(2,3),(1,2),(0,1)]:=by
 refine Qm7 (n:=4) ?_ ?_
 ·
  intro e he;simp only[List.mem_cons,List.not_mem_nil,or_false] at he;rcases he with rfl|rfl|rfl|rfl|rfl<;>exact⟨by decide,by decide,by decide⟩
 · decide
theorem run_five:RunR 4 [((0,2):Edge),(3,0),(2,3),(1,2),(0,1)] [true,true,true,true,true]:=by
 have h5:=Qnl;have h4:=h5.less;have h3:=h4.less;have h2:=h3.less;have h1:=h2.less;exact⟨⟨⟨⟨⟨trivial,⟨fun _=>h1,fun _=>rfl⟩⟩,⟨fun _=>h2,fun _=>rfl⟩⟩,⟨fun _=>h3,fun _=>rfl⟩⟩,⟨fun _=>h4,fun _=>rfl⟩⟩,⟨fun _=>h5,fun _=>rfl⟩⟩
theorem Qnm:RunR 4 [((1,3):Edge),(0,2),(3,0),(2,3),(1,2),(0,1)] [false,true,true,true,true,true]:=by
 refine⟨run_five,⟨(fun h=>by cases h),fun h=>?_⟩⟩;have:=h (fun _=>true) (by decide);exact absurd this (by decide)
theorem Qnn:RunR 4 [((3,0):Edge),(2,3),(1,2),(0,1)] [true,true,true,true]:=run_five.1
theorem Qno(s:Nat)(w:World)(h:ERow w (some ⟨s,0,none⟩) 4 sq):Calls Tryz.prog 72 #[.int .i64 4,.slice (some ⟨s,0,none⟩) 4 4] w fun e w'=>e=.returned (.tuple #[.bool false,.agg #[.int .i64 0,.int .i64 0]])∧Below w.heap.size w w':=by
 have:=Qg6 4 (some ⟨s,0,none⟩) 4 sq w h (by decide);refine Calls.mono this ?_;rintro e w' ⟨c,at_,b,rfl,hck,hb,h⟩;obtain⟨rfl,rfl⟩:=Chk_zero hck (by decide) (by decide) (by decide) (Qed ok_sq);rcases h with ⟨h,_⟩|⟨_,l,hr,rfl⟩
 · exact absurd rfl h
 · obtain rfl:=Qcp Qnn hr
   exact⟨rfl,hb⟩
theorem Qnp(a:Option Addr)(cap:Nat)(w:World)(h:ERow w a cap sq5):Calls Tryz.prog 72 #[.int .i64 4,.slice a 5 cap] w fun e w'=>e=.returned (.tuple #[.bool true,.agg #[.int .i64 0,.int .i64 0]])∧Below w.heap.size w w':=by
 have:=Qg6 4 a cap sq5 w h (by decide);refine Calls.mono this ?_;rintro e w' ⟨c,at_,b,rfl,hck,hb,h⟩;obtain⟨rfl,rfl⟩:=Chk_zero hck (by decide) (by decide) (by decide) (Qed Qnj);rcases h with ⟨h,_⟩|⟨_,l,hr,rfl⟩
 · exact absurd rfl h
 · obtain rfl:=Qcp run_five hr
   exact⟨rfl,hb⟩
theorem Qnq(a:Option Addr)(cap:Nat)(w:World)(h:ERow w a cap sq6):Calls Tryz.prog 30 #[.int .i64 4,.slice a 6 cap] w fun e w'=>∃v,e=.returned (.tuple #[v,.agg #[.int .i64 0,.int .i64 0]])∧BLst w' v [true,true,true,true,true,false]∧Below w.heap.size w w':=by
 have:=peb_Free 4 a cap sq6 w h (by decide);refine Calls.mono this ?_;rintro e w' ⟨c,at_,v,rfl,hck,hb,h⟩;obtain⟨rfl,rfl⟩:=Chk_zero hck (by decide) (by decide) (by decide) (Qed Qnk);rcases h with ⟨h,_⟩|⟨_,l,hbr,hr⟩
 · exact absurd rfl h
 ·
  have e1:=Qcp Qnm hr;have e2:l= [true,true,true,true,true,false]:=by rw[←List.reverse_reverse l,←e1];rfl
  subst e2;exact⟨v,rfl,hbr.lst,hb⟩
set_option maxRecDepth 100000 in
set_option maxHeartbeats 4000000 in
theorem law_plays(w:World):Calls Tryz.prog 28 #[] w fun e w'=>e=.returned (.bool true)∧Below w.heap.size w w':=by
 obtain⟨W,hW⟩:∃W,w.alloc (.cells #[.int .i64 0,.int .i64 1,.int .i64 1,.int .i64 2,.int .i64 2,.int .i64 3,.int .i64 3,.int .i64 0] 69)=W:=⟨_,rfl⟩;have hB0:Below w.heap.size w W:=by rw[←hW];exact(Below.refl _ _).alloc (Nat.le_refl _) _
 obtain⟨s,hs⟩:∃s,w.heap.size=s:=⟨_,rfl⟩;have hS0:SB W s 69 #[.int .i64 0,.int .i64 1,.int .i64 1,.int .i64 2,.int .i64 2,.int .i64 3,.int .i64 3,.int .i64 0]:=by rw[←hW,←hs];exact SB.new w _ _
 have hE0:EOwn W s (.slice (some ⟨s,0,none⟩) 4 4) sq:=⟨rfl,.inr ⟨s,4,_,rfl,Nat.le_refl _,hS0,by decide,by decide,by decide,rfl⟩⟩;have hR0:∀v,Below W.heap.size W v→ERow v (some ⟨s,0,none⟩) 4 sq:=fun v hv=>by
  obtain⟨a,c,e,h,_⟩:=(hE0.below hv).row;injection e with e1 _ e3
  rw[e1,e3];exact h
 have HB0:=Hi hB0;have HE0:=Hi hE0;have HR0:=Hi hR0;have HW:=Hi hW;have HS:=Hi hs;clear hW hB0 hS0 hE0 hR0;go_enter Tryz.func28,Tryz.ntmps28;go_wp2_with fail;rw[HW.out]
 try rw[hs]
 clear hs;go_fit (Qno s W (HR0.out W (Below.refl _ _)));rintro e w1 ⟨rfl,hb1⟩;obtain⟨F1,hF1⟩:∃F1,w1.alloc (.cells #[.int .i64 0,.int .i64 0] 57)=F1:=⟨_,rfl⟩;have hF1s:SB F1 w1.heap.size 57 #[.int .i64 0,.int .i64 0]:=by rw[←hF1];exact SB.new w1 _ _
 have hbF1:Below W.heap.size W F1:=by rw[←hF1];exact hb1.alloc hb1.size _
 have hszF:F1.heap.size=w1.heap.size+1:=by rw[←hF1,World.size_alloc]
 obtain⟨X1,hX1⟩:∃X1,F1.alloc (.cells #[.int .i64 0,.int .i64 2] 69)=X1:=⟨_,rfl⟩;have hbX1:Below F1.heap.size F1 X1:=by rw[←hX1];exact(Below.refl _ _).alloc (Nat.le_refl _) _
 have hcX1:∀j u,(([(0,2)]:List (Int × Int)).flatMap eCells)[j]?=some u→X1.cell? ((⟨w1.heap.size+1,0,none⟩:Addr).add j)=some u:=fun j u hj=>by
  rw[←hszF,add_at,Nat.zero_add,←hX1,(SB.new F1 69 #[.int .i64 0,.int .i64 2]).cell]
  simpa [eCells] using hj
 obtain⟨v2,w2,happ,hE2,hb2⟩:=(HE0.out.below (hbF1.trans (hbX1.mono hbF1.size))).appFull rfl ⟨w1.heap.size+1,0,none⟩ [(0,2)] (by decide) hcX1 (by decide) (by have:=hbF1.size;have:=hbX1.size;have:=HB0.out.size;have:=HS.out;omega) 1;obtain⟨a2,cap2,rfl,hr2,_⟩:=hE2.row;have happ':appRun Tryz.prog 66 66 (.slice (some ⟨s,0,none⟩) 4 4) (.slice (some ⟨w1.heap.size+1,0,none⟩) 1 1) ((w1.alloc (.cells #[.int .i64 0,.int .i64 0] 57)).alloc (.cells #[.int .i64 0,.int .i64 2] 69))=.ok (.slice a2 5 cap2) w2:=by rw[hF1,hX1];exact happ
 have HBF1:=Hi hbF1;have HF1S:=Hi hF1s;have HB2:Hid (Below F1.heap.size F1 w2):=Hi (hbX1.trans (hb2.mono hbX1.size));have HRI:=Hi (Qnp a2 cap2 w2 hr2);clear happ hb1 hF1 hF1s hbF1 hszF hX1 hbX1 hcX1 hE2 hb2 hr2;go_wp2_with fail;clear happ';go_fit HRI.out;rintro e w3 ⟨rfl,hb3⟩;have hb3F:Below F1.heap.size F1 w3:=HB2.out.trans (hb3.mono HB2.out.size);obtain⟨F2,hF2⟩:∃F2,w3.alloc (.cells #[.int .i64 0,.int .i64 0] 57)=F2:=⟨_,rfl⟩;have hF2s:SB F2 w3.heap.size 57 #[.int .i64 0,.int .i64 0]:=by rw[←hF2];exact SB.new w3 _ _
 have hbF2:Below F1.heap.size F1 F2:=by rw[←hF2];exact hb3F.alloc hb3F.size _
 have hszF:F2.heap.size=w3.heap.size+1:=by rw[←hF2,World.size_alloc]
 obtain⟨X2,hX2⟩:∃X2,F2.alloc (.cells #[.int .i64 0,.int .i64 2,.int .i64 1,.int .i64 3] 69)=X2:=⟨_,rfl⟩;have hbX2:Below F2.heap.size F2 X2:=by rw[←hX2];exact(Below.refl _ _).alloc (Nat.le_refl _) _
 have hcX2:∀j u,(([(0,2),(1,3)]:List (Int × Int)).flatMap eCells)[j]?=some u→X2.cell? ((⟨w3.heap.size+1,0,none⟩:Addr).add j)=some u:=fun j u hj=>by
  rw[←hszF,add_at,Nat.zero_add,←hX2,(SB.new F2 69 #[.int .i64 0,.int .i64 2,.int .i64 1,.int .i64 3]).cell]
  simpa [eCells] using hj
 have hbW2:Below W.heap.size W X2:=(HBF1.out.trans (hbF2.mono HBF1.out.size)).trans (hbX2.mono (by have:=hbF2.size;have:=HBF1.out.size;omega));obtain⟨v4,w4,happ,hE4,hb4⟩:=(HE0.out.below hbW2).appFull rfl ⟨w3.heap.size+1,0,none⟩ [(0,2),(1,3)] (by decide) hcX2 (by decide) (by have:=hbW2.size;have:=HB0.out.size;have:=HS.out;omega) 2;obtain⟨a4,cap4,rfl,hr4,_⟩:=hE4.row;have happ':appRun Tryz.prog 66 66 (.slice (some ⟨s,0,none⟩) 4 4) (.slice (some ⟨w3.heap.size+1,0,none⟩) 2 2) ((w3.alloc (.cells #[.int .i64 0,.int .i64 0] 57)).alloc (.cells #[.int .i64 0,.int .i64 2,.int .i64 1,.int .i64 3] 69))=.ok (.slice a4 6 cap4) w4:=by rw[hF2,hX2];exact happ
 have HBF2:=Hi hbF2;have HF2S:=Hi hF2s;have HB4:Hid (Below F2.heap.size F2 w4):=Hi (hbX2.trans (hb4.mono hbX2.size));have HFR:=Hi (Qnq a4 cap4 w4 hr4);clear happ hb3 hb3F hF2 hF2s hbF2 hszF hX2 hbX2 hcX2 hbW2 hE4 hb4 hr4;go_wp2_with fail;clear happ';go_fit HFR.out;rintro e w5 ⟨v5,rfl,hbl5,hb5⟩;have hbF25:Below F2.heap.size F2 w5:=HB4.out.trans (hb5.mono HB4.out.size);obtain⟨F3,hF3⟩:∃F3,w5.alloc (.cells #[.int .i64 0,.int .i64 0] 57)=F3:=⟨_,rfl⟩;have hF3s:SB F3 w5.heap.size 57 #[.int .i64 0,.int .i64 0]:=by rw[←hF3];exact SB.new w5 _ _
 have hb53:Below w5.heap.size w5 F3:=by rw[←hF3];exact(Below.refl _ _).alloc (Nat.le_refl _) _
 have hbF23:Below F2.heap.size F2 F3:=hbF25.trans (hb53.mono hbF25.size);have hbF13:Below F1.heap.size F1 F3:=HBF2.out.trans (hbF23.mono HBF2.out.size);have hbW3:Below W.heap.size W F3:=HBF1.out.trans (hbF13.mono HBF1.out.size);have i1:F3.cell? ⟨w1.heap.size,0,none⟩=some (.int .i64 0):=(HF1S.out.below hbF13 HF1S.out.lt).cell 0;have i2:F3.cell? ⟨w3.heap.size,0,none⟩=some (.int .i64 0):=(HF2S.out.below hbF23 HF2S.out.lt).cell 0;have i3:F3.cell? ⟨w5.heap.size,0,none⟩=some (.int .i64 0):=hF3s.cell 0;obtain⟨G,hG⟩:∃G,F3.alloc (.cells #[.bool true,.bool true,.bool true,.bool true,.bool true,.bool false] 4)=G:=⟨_,rfl⟩;have hbG:Below F3.heap.size F3 G:=by rw[←hG];exact(Below.refl _ _).alloc (Nat.le_refl _) _
 have hGs:SB G F3.heap.size 4 #[.bool true,.bool true,.bool true,.bool true,.bool true,.bool false]:=by rw[←hG];exact SB.new F3 _ _
 have hszF3:F3.heap.size=w5.heap.size+1:=by rw[←hF3,World.size_alloc]
 have hlG:BLst G (.slice (some ⟨w5.heap.size+1,0,none⟩) 6 6) [true,true,true,true,true,false]:=⟨_,6,rfl,fun i q hi=>⟨_,0,rfl,by rw[←hszF3];exact hGs.lt,by
  rw[←hszF3,Nat.zero_add,hGs.cell]
  match i,hi with
  |0,hi=>simpa using hi
  |1,hi=>simpa using hi
  |2,hi=>simpa using hi
  |3,hi=>simpa using hi
  |4,hi=>simpa using hi
  |5,hi=>simpa using hi
  |n+6,hi=>simp at hi⟩⟩
 have HEQ:=Hi (Qnh v5 (.slice (some ⟨w5.heap.size+1,0,none⟩) 6 6) _ G (hbl5.below (hb53.trans (hbG.mono hb53.size))) hlG (by decide));have HBG:Hid (Below w.heap.size w G):=Hi ((HB0.out.trans (hbW3.mono HB0.out.size)).trans (hbG.mono (by have:=hbW3.size;have:=HB0.out.size;omega)));have HG:=Hi hG;have HF3:=Hi hF3;rw[←hF3] at i1 i2 i3;clear hbl5 hb5 hbF25 hF3 hF3s hb53 hbF23 hbF13 hbW3 hG hbG hGs hszF3 hlG;go_wp2_with fail;rw[HF3.out,HG.out];go_fit HEQ.out;rintro e w6 ⟨rfl,hb6⟩;have HB6:=Hi (HBG.out.trans (hb6.mono HBG.out.size));clear hb6 i1 i2 i3;go_wp2;go_ret;exact⟨rfl,HB6.out⟩
end Go.Proofs.YtbbkamnfjejceaaGreatDoor.Peb
