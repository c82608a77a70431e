import Derived.Test.YtkkadnoecklepaaGreatDoorG13RowsJ
namespace Go.Proofs.YtkkadnoecklepaaGreatDoor
open Go.RowKit
open Go.Proofs.Tryz
set_option linter.unusedSimpArgs false
set_option linter.unusedVariables false
set_option maxHeartbeats 8000000
set_option maxRecDepth 1000000
def IsI(u:Value):Prop:=∃n:Int,u=Value.int .i64 n
def headsV(hs:Vy):List Value:=hs.map fun h=>Value.int .i64 (h:Nat)
theorem Quv:∀u,u∈ (Value.int .i64 0).cells.toList->IsI u:=fun u b=>by
 have e:(Value.int .i64 0).cells=#[.int .i64 0]:=by rfl
 rw[e] at b;obtain rfl:u=_:=by simpa using b
 exact⟨_,rfl⟩
theorem IsI.plain{C:Vw}(h:∀u,u∈ C.toList->IsI u):Plain C:=fun u b=>by
 obtain⟨n,rfl⟩:=h u b;exact⟨fun x=>by simp,fun m=>by simp⟩
theorem Quw:(prog.info? 3).map (fun i=>(i.zero,i.size,i.bytes))=some (some (.int .i64 0),1,8):=by kernel_rfl
theorem SB.unlike{w:Vz}{b d:Nat}{t e:Vr}{C f:Vw}(h:SB w b t C)(c:SB w d e f)(g:t≠e):b≠d:=by
 rintro rfl;unfold SB at h c;rw[h] at c;injection c with c
 injection c with _ c _
 exact g c
theorem Grow.sb{w:Vz}{B:Nat}{e:Vr}{sz:Nat}{K:Value->Prop}{v:Value}{n:Nat}{xs:Vv}(h:Grow w B e sz K v n xs){g:Nat}(b:v.ownBlock=some g):∃C,SB w g e C/\∀u,u∈ C.toList->K u:=h.all g b
theorem Grow.lt{w:Vz}{B:Nat}{e:Vr}{sz:Nat}{K:Value->Prop}{v:Value}{n:Nat}{xs:Vv}(h:Grow w B e sz K v n xs){g:Nat}(b:v.ownBlock=some g):B<=g/\g<w.heap.size:=h.own.lt g b
theorem Grow.below{w b:Vz}{B:Nat}{e:Vr}{sz:Nat}{K:Value->Prop}{v:Value}{n:Nat}{xs:Vv}(h:Grow w B e sz K v n xs)(c:Bl w b):Grow b B e sz K v n xs:=h.keep fun g d=>c.block g (h.lt d).2
theorem Grow.only{w d:Vz}{B:Nat}{e:Vr}{sz:Nat}{K:Value->Prop}{v:Value}{n:Nat}{xs:Vv}(h:Grow w B e sz K v n xs)(b:w.grownBy d v.ownBlock)(f:∀C:Vw,(∀u,u∈ C.toList->K u)->Plain C):Fr w d:=by
 rcases ho:v.ownBlock with _|g
 . rw[ho] at b
   exact Fr.of_below ⟨b.os,b.tape,b.output,b.size,fun k hk=>b.block k hk (by simp)⟩
 .
  obtain⟨C,i,j⟩:=h.sb ho;rw[ho] at b;exact Fr.of_only ⟨b.os,b.tape,b.output,b.size,fun k hk c=>b.block k hk (by simpa using c)⟩ i (f C j)
structure SW (w u:Vz) (W K wide:Nat) (L S X:List MR) (hs:Vy) (lv sv hv b1 b2:Value):Prop where
 box:SB u (w.heap.size+1) 195 #[.int .i64 wide,b1,b2]
 res:SB u w.heap.size 195 #[.int .i64 0,.slice none 0 0,.slice none 0 0]
 left:Grow u w.heap.size 98 1 IsSl lv L.length (L.map MR.val)
 rows:Grow u w.heap.size 98 1 IsSl sv S.length (S.map MR.val)
 heads:Grow u w.heap.size 3 1 IsI hv hs.length (headsV hs)
 apart:∀g,lv.ownBlock=some g->sv.ownBlock≠some g
 okL:Oks u W K L
 okS:Oks u W K S
 okX:Oks u W K X
 base:Bl w u
 sl:IsSl b1/\IsSl b2
section
variable {w u:Vz} {W K wide:Nat} {L S X:List MR} {hs:Vy} {lv sv hv b1 b2:Value}
theorem SW.below{c:Vz}(h:SW w u W K wide L S X hs lv sv hv b1 b2)(b:Bl u c):SW w c W K wide L S X hs lv sv hv b1 b2:=
 ⟨h.box.below b h.box.lt,h.res.below b h.res.lt,h.left.below b,h.rows.below b,h.heads.below b,h.apart,h.okL.fr (Fr.of_below b),h.okS.fr (Fr.of_below b),h.okX.fr (Fr.of_below b),h.base.trans (b.mono h.base.size),h.sl⟩
theorem SW.alloc(h:SW w u W K wide L S X hs lv sv hv b1 b2)(o:Obj):SW w (u.alloc o) W K wide L S X hs lv sv hv b1 b2:=h.below (bR.alloc lZ _)
theorem SW.drew(h:SW w u W K wide L S X hs lv sv hv b1 b2):SW w u.drew W K wide L S X hs lv sv hv b1 b2:=h.below bR.drew
theorem row_stairs:98≠195:=by decide
theorem int_stairs:3≠195:=by decide
theorem int_row:3≠98:=by decide
theorem SW.left_only{d:Vz}{g:Nat}{f:List MR}{b:Value}(h:SW w u W K wide L S X hs lv sv hv b1 b2)(i:lv.ownBlock=some g)(j:b.ownBlock=some g)(c:Only g u d)(hl:Grow d w.heap.size 98 1 IsSl b f.length (f.map MR.val))(l:Oks d W K f):SW w d W K wide f S X hs b sv hv b1 b2:=by
 obtain⟨C,c1,c2⟩:=h.left.sb i;have e:Fr u d:=Fr.of_only c c1 (IsSl.plain c2);refine⟨h.box.only c (h.box.unlike c1 row_stairs.symm),h.res.only c (h.res.unlike c1 row_stairs.symm),hl,h.rows.keep fun k hk=>c.block k (h.rows.lt hk).2 ?_,h.heads.keep fun k hk=>c.block k (h.heads.lt hk).2 ?_,fun k hk=>?_,l,h.okS.fr e,h.okX.fr e,h.base.trans (c.below (h.left.lt i).1 h.base.size),h.sl⟩
 . rintro rfl
   exact h.apart k i hk
 . obtain⟨D,d1,_⟩:=h.heads.sb hk
   exact d1.unlike c1 int_row
 .
  rw[j] at hk;rw[<-hk];exact h.apart g i
theorem SW.app1{s:MR}{nb c:Nat}(h:SW w u W K wide L S X hs lv sv hv b1 b2)(z:u.cell? ⟨nb,0,none⟩=some s.val)(B:MOk u W K s)(T:S.length<=1000)(ty:Vr):
 ∃l g,(Builtin.append_ #[148,148] ty #[sv,.slice (some ⟨nb,0,none⟩) 1 c]).run prog u=.ok l g/\SW w g W K wide L (S++ [s]) X hs lv l hv b1 b2/\u.heap.size<=g.heap.size/\∀b i n,u.cell? ⟨b,i,none⟩=some (.int .i64 n)->g.cell? ⟨b,i,none⟩=some (.int .i64 n):=by
 obtain⟨U,O,F,G,hz2⟩:=info_parts Qc5;obtain⟨l,g,x,H,m,I⟩:=h.rows.app (P:=prog) (ty:=ty) underlying148 O F G hz2 rfl (by decide) Qlk ⟨nb,0,none⟩ 1 c [s.val] rfl (fun j v J=>by
  match j,J with
  |0,J=>
   obtain rfl:s.val=v:=by simpa using J
   rw[Qao]
   exact z) (fun v hv=>by obtain rfl:v=s.val:=by simpa using hv
                          rfl) (fun v hv=>by obtain rfl:v=s.val:=by simpa using hv
                                             exact⟨_,_,_,rfl⟩) (by omega) (by decide) h.base.size
 have p:Fr u g:=h.rows.only m (fun C=>IsSl.plain);have d:∀b,b<u.heap.size->sv.ownBlock≠some b->g.heap[b]?=u.heap[b]?:=fun b f q=>m.block b f (fun e=>q e.symm)
 have q:∀{b:Nat} {t:Vr} {C:Vw},SB u b t C->t≠98->sv.ownBlock≠some b:=fun {b t C} f M z=>by
  obtain⟨D,d1,_⟩:=h.rows.sb z;exact f.unlike d1 M rfl
 have A:∀{b:Nat} {t:Vr} {C:Vw},SB u b t C->t≠98->SB g b t C:=fun {b t C} f M=>by
  have R:=d b f.lt (q f M);unfold SB at f ⊢;rw[R];exact f
 have y:Bl w g:=h.base.grown m h.base.size (fun k hk=>(h.rows.lt hk).1);refine⟨l,g,x,⟨A h.box row_stairs.symm,A h.res row_stairs.symm,h.left.keep fun k hk=>d k (h.left.lt hk).2 (h.apart k hk),by rw[List.map_append,List.length_append];exact H,h.heads.keep fun k hk=>?_,fun k hk=>?_,h.okL.fr p,fun r x=>?_,h.okX.fr p,y,h.sl⟩,m.size,fun b i n f=>?_⟩
 . obtain⟨D,d1,_⟩:=h.heads.sb hk
   exact d k (h.heads.lt hk).2 (q d1 int_row)
 .
  rcases I with e|e
  . rw[e]
    exact h.apart k hk
  .
   rw[e];have:=(h.left.lt hk).2;intro N;injection N with N
   omega
 .
  rcases List.mem_append.1 x with x|x
  . exact(h.okS r x).fr p
  . obtain rfl:r=s:=by simpa using x
    exact B.fr p
 .
  refine(World.cell?_of_block (w:=u) (a:=⟨b,i,none⟩) (d b (World.block_lt_of_cell? _ _ f) fun z=>?_)).trans f;obtain⟨D,d1,d2⟩:=h.rows.sb z;rw[d1.cell] at f;obtain⟨_,_,_,e⟩:=d2 _ (mO (by rw[Array.getElem?_toList];exact f));cases e
theorem SW.app2{k nb c:Nat}(h:SW w u W K wide L S X hs lv sv hv b1 b2)(r:u.cell? ⟨nb,0,none⟩=some (.int .i64 (k:Nat)))(I:hs.length<=1000)(ty:Vr):
 ∃g i,(Builtin.append_ #[155,155] ty #[hv,.slice (some ⟨nb,0,none⟩) 1 c]).run prog u=.ok g i/\SW w i W K wide L S X (hs++ [k]) lv sv g b1 b2:=by
 obtain⟨J,B,s,x,hz2⟩:=info_parts Quw;obtain⟨g,i,F,y,m,G⟩:=h.heads.app (P:=prog) (ty:=ty) underlying155 B s x hz2 rfl (by decide) Quv ⟨nb,0,none⟩ 1 c [.int .i64 (k:Nat)] rfl (fun j v z=>by
  match j,z with
  |0,z=>
   obtain rfl:_=v:=by simpa using z
   rw[Qao]
   exact r) (fun v hv=>by obtain rfl:v=_:=by simpa using hv
                          rfl) (fun v hv=>by obtain rfl:v=_:=by simpa using hv
                                             exact⟨_,rfl⟩) (by omega) (by decide) h.base.size
 have n:Fr u i:=h.heads.only m (fun C=>IsI.plain);have d:∀b,b<u.heap.size->hv.ownBlock≠some b->i.heap[b]?=u.heap[b]?:=fun b l f=>m.block b l (fun e=>f e.symm)
 have f:∀{b:Nat} {t:Vr} {C:Vw},SB u b t C->t≠3->hv.ownBlock≠some b:=fun {b t C} l A r=>by
  obtain⟨D,d1,_⟩:=h.heads.sb r;exact l.unlike d1 A rfl
 have q:∀{b:Nat} {t:Vr} {C:Vw},SB u b t C->t≠3->SB i b t C:=fun {b t C} l A=>by
  have H:=d b l.lt (f l A);unfold SB at l ⊢;rw[H];exact l
 have p:Bl w i:=h.base.grown m h.base.size (fun k hk=>(h.heads.lt hk).1);refine⟨g,i,F,⟨q h.box int_stairs.symm,q h.res int_stairs.symm,h.left.keep fun k hk=>?_,h.rows.keep fun k hk=>?_,?_,h.apart,h.okL.fr n,h.okS.fr n,h.okX.fr n,p,h.sl⟩⟩
 . obtain⟨D,d1,_⟩:=h.left.sb hk
   exact d k (h.left.lt hk).2 (f d1 int_row.symm)
 . obtain⟨D,d1,_⟩:=h.rows.sb hk
   exact d k (h.rows.lt hk).2 (f d1 int_row.symm)
 .
  have e:headsV (hs++ [k])=headsV hs++ [.int .i64 (k:Nat)]:=by simp[headsV]
  rw[e,List.length_append];exact y
theorem SW.put(h:SW w u W K wide L S X hs lv sv hv b1 b2):SW w ((u.setCell ⟨w.heap.size+1,1,none⟩ sv).setCell ⟨w.heap.size+1,2,none⟩ hv) W K wide L S X hs lv sv hv sv hv:=by
 have i:Only (w.heap.size+1) u ((u.setCell ⟨w.heap.size+1,1,none⟩ sv).setCell ⟨w.heap.size+1,2,none⟩ hv):=((Only.refl _ _).setCell _ _).setCell _ _;have f:∀{B:Nat} {e:Vr} {sz:Nat} {Q:Value->Prop} {v:Value} {n:Nat} {xs:Vv},Grow u B e sz Q v n xs->∃x y z,v=Value.slice x y z:=fun {B e sz Q v n xs} b=>by
  rcases b.own.2 with ⟨rfl,_⟩|⟨g,m,p,rfl,_⟩
  . exact⟨_,_,_,rfl⟩
  . exact⟨_,_,_,rfl⟩
 have c:∀{B:Nat} {e:Vr} {sz:Nat} {Q:Value->Prop} {v:Value} {n:Nat} {xs:Vv},e≠195->Grow u B e sz Q v n xs->Grow ((u.setCell ⟨w.heap.size+1,1,none⟩ sv).setCell ⟨w.heap.size+1,2,none⟩ hv) B e sz Q v n xs:=fun {B e sz Q v n xs} q b=>b.keep fun k hk=>i.block k (b.lt hk).2 (by
  obtain⟨D,d1,_⟩:=b.sb hk
  exact d1.unlike h.box q)
 have j:=(h.box.set 1 sv).set 2 hv;have l:Plain #[.int .i64 (wide:Int),b1,b2]:=fun v hv=>by
  obtain⟨x1,x2,x3,r⟩:=h.sl.1;obtain⟨y1,y2,y3,s⟩:=h.sl.2;subst r;subst s;simp at hv;rcases hv with rfl|rfl|rfl
  . exact⟨by simp,by simp⟩
  . exact⟨by simp,by simp⟩
  . exact⟨by simp,by simp⟩
 have d:Fr u ((u.setCell ⟨w.heap.size+1,1,none⟩ sv).setCell ⟨w.heap.size+1,2,none⟩ hv):=Fr.of_only i h.box l;exact⟨by simpa using j,h.res.only i (by omega),c row_stairs h.left,c row_stairs h.rows,c int_stairs h.heads,h.apart,h.okL.fr d,h.okS.fr d,h.okX.fr d,h.base.trans (i.below (Nat.le_succ _) h.base.size),f h.rows,f h.heads⟩
end
theorem Grow.mono{w:Vz}{B B':Nat}{e:Vr}{sz:Nat}{K:Value->Prop}{v:Value}{n:Nat}{xs:Vv}(h:Grow w B e sz K v n xs)(hB:B'<=B):Grow w B' e sz K v n xs:=by
 refine⟨⟨h.own.1,?_⟩,h.all⟩;rcases h.own.2 with d|⟨g,b,c,rfl,f,i⟩
 . exact .inl d
 . exact .inr ⟨g,b,c,rfl,Nat.le_trans hB f,i⟩
theorem Grow.slice{w:Vz}{B sz:Nat}{e:Vr}{K:Value->Prop}{v:Value}{n:Nat}{xs:Vv}(h:Grow w B e sz K v n xs):
 ∃a b,v=.slice a n b/\n<=b/\CRow w a xs/\(0<n->∃g,a=some ⟨g,0,none⟩/\v.ownBlock=some g):=by
 rcases h.own.2 with ⟨rfl,rfl⟩|⟨g,b,i,rfl,p,k,c,l,m,d⟩
 .
  have:xs= []:=List.eq_nil_of_length_eq_zero (by simpa using h.own.1);subst this;exact⟨none,0,rfl,Nat.le_refl _,⟨fun j u f=>by simp at f⟩,fun h=>by omega⟩
 .
  refine⟨some ⟨g,0,none⟩,b,rfl,c,⟨fun j u f=>⟨g,0,rfl,SB.lt k,?_⟩⟩,fun _=>⟨g,rfl,rfl⟩⟩;have:=h.own.cells (g:=g) rfl j u f;rw[Qao] at this;exact this
theorem Grow.mat{w:Vz}{B W K:Nat}{v:Value}{L:List MR}(h:Grow w B 98 1 IsSl v L.length (L.map MR.val))(c:Oks w W K L):
 ∃a b,v=.slice a L.length b/\QMat w a b W L/\(0<L.length->∃g,a=some ⟨g,0,none⟩):=by
 obtain⟨a,b,e,f,d,i⟩:=h.slice;refine⟨a,b,e,⟨⟨f,by rw[Qet];exact d⟩,fun r d=>⟨(c r d).row,(c r d).len⟩⟩,fun j=>?_⟩;obtain⟨g,k,_⟩:=i j;exact⟨g,k⟩
theorem Grow.set{w:Vz}{B g c:Nat}{e:Vr}{K:Value->Prop}{n k:Nat}{xs:Vv}{x:Value}(h:Grow w B e 1 K (.slice (some ⟨g,0,none⟩) n c) n xs)(hk:k<n)(z:K x):Grow (w.setCell ⟨g,k,none⟩ x) B e 1 K (.slice (some ⟨g,0,none⟩) n c) n (xs.set k x):=by
 obtain⟨f,i⟩:=h.own;rcases i with ⟨b,_⟩|⟨v,cap',p,b,A,y,q,r,s,d⟩
 . cases b
 .
  injection b with b _ D
  injection b with b
  injection b with b _ _
  subst b;subst D;obtain⟨C,hC,j⟩:=h.all g rfl;rw[y] at hC;injection hC with hC
  injection hC with hC _ _
  subst hC;have l:SB (w.setCell ⟨g,k,none⟩ x) g e (p.setIfInBounds k x):=SB.set y k x;refine⟨⟨by rw[List.length_set];exact f,.inr ⟨g,c,_,rfl,A,l,q,r,by simpa using s,?_⟩⟩,fun v t=>?_⟩
  . rw[Array.toList_setIfInBounds,List.take_set,d]
  .
   have e:g=v:=by simpa [Value.ownBlock] using t
   subst e;refine⟨_,l,fun u m=>?_⟩;rw[Array.toList_setIfInBounds] at m;rcases List.mem_or_eq_of_mem_set m with m|rfl
   . exact j u m
   . exact z
theorem Grow.free{w:Vz}{B g b l:Nat}{e:Vr}{K:Value->Prop}{n:Nat}{xs:Vv}(h:Grow w B e 1 K (.slice (some ⟨g,0,none⟩) l b) n xs)(k:Nat):w.frozen? ⟨g,k,none⟩=false:=by
 obtain⟨C,hC,_⟩:=h.sb (g:=g) rfl;exact hC.free k
theorem Grow.cell{w:Vz}{B g b l:Nat}{e:Vr}{K:Value->Prop}{n k:Nat}{xs:Vv}{x:Value}(h:Grow w B e 1 K (.slice (some ⟨g,0,none⟩) l b) n xs)(hk:xs[k]?=some x):w.cell? ⟨g,k,none⟩=some x:=by
 have:=h.own.cells (g:=g) rfl k x hk;rw[Qao,Nat.zero_add] at this;exact this
theorem SW.setL{w u:Vz}{W K wide g b m n:Nat}{L S X:List MR}{hs:Vy}{sv hv b1 b2:Value}{r:MR}(h:SW w u W K wide L S X hs (.slice (some ⟨g,0,none⟩) n b) sv hv b1 b2)(f:n=L.length)(i:m<L.length)(j:MOk u W K r):SW w (u.setCell ⟨g,m,none⟩ r.val) W K wide (L.set m r) S X hs (.slice (some ⟨g,0,none⟩) n b) sv hv b1 b2:=by
 subst f;have e:Only g u (u.setCell ⟨g,m,none⟩ r.val):=(Only.refl _ _).setCell _ _;obtain⟨C,c1,c2⟩:=h.left.sb (g:=g) rfl;have c:=Fr.of_only e c1 (IsSl.plain c2);refine h.left_only rfl rfl e ?_ fun x d=>?_
 . rw[List.length_set,List.map_set]
   exact h.left.set i ⟨_,_,_,rfl⟩
 .
  rcases List.mem_or_eq_of_mem_set d with d|rfl
  . exact(h.okL x d).fr c
  . exact j.fr c
theorem Qgz{α β:Type}(f:α->β):∀(l:List α) (i:Nat),(l.map f).eraseIdx i=(l.eraseIdx i).map f
 | [],_=>rfl
 |_ :: _,0=>rfl
 |x :: l,i+1=>by simp only[List.map_cons,List.eraseIdx_cons_succ];rw[Qgz f l i]
theorem Grow.form{w:Vz}{B sz:Nat}{e:Vr}{K:Value->Prop}{v:Value}{n:Nat}{xs:Vv}(h:Grow w B e sz K v n xs){g:Nat}(c:v.ownBlock=some g):∃b,v=.slice (some ⟨g,0,none⟩) n b:=by
 rcases h.own.2 with ⟨rfl,_⟩|⟨d,b,f,rfl,_⟩
 . simp[Value.ownBlock] at c
 . obtain rfl:d=g:=by simpa [Value.ownBlock] using c
   exact⟨b,rfl⟩
section
variable {w u:Vz} {W K wide:Nat} {L S X:List MR} {hs:Vy} {lv sv hv b1 b2:Value}
theorem SW.erase{i:Vz}{g j:Nat}{k:Value}(h:SW w u W K wide L S X hs lv sv hv b1 b2)(m:lv.ownBlock=some g)(d:k.ownBlock=some g)(n:Only g u i)(f:Grow i w.heap.size 98 1 IsSl k (L.length - 1) ((L.map MR.val).eraseIdx j))(p:j<L.length):
 ∃c,k=.slice (some ⟨g,0,none⟩) (L.eraseIdx j).length c/\SW w i W K wide (L.eraseIdx j) S X hs k sv hv b1 b2:=by
 have b:(L.eraseIdx j).length=L.length - 1:=by rw[List.length_eraseIdx,if_pos p]
 obtain⟨c,e⟩:=f.form d;obtain⟨C,c1,c2⟩:=h.left.sb m;have l:Fr u i:=Fr.of_only n c1 (IsSl.plain c2);refine⟨c,by rw[b];exact e,h.left_only m d n ?_ fun r q=>(h.okL r (List.mem_of_mem_eraseIdx q)).fr l⟩;rw[b,<-Qgz];exact f
theorem SW.withX{Y:List MR}(h:SW w u W K wide L S X hs lv sv hv b1 b2)(b:Oks u W K Y):SW w u W K wide L S Y hs lv sv hv b1 b2:=⟨h.box,h.res,h.left,h.rows,h.heads,h.apart,h.okL,h.okS,b,h.base,h.sl⟩
variable {P:Program} {ops:Array Oper} {o:Oper} {a:Act} {K':Act->World->Prop} {Q:Exit->Act->World->Prop} {E:Prop}
end
theorem Grow.frac_ne{w:Vz}{B sz:Nat}{e:Vr}{v:Value}{n:Nat}{xs:Vv}(h:Grow w B e sz IsSl v n xs){g b i:Nat}{x y z:Value}{q:Rat}(p:v.ownBlock=some g)(f:w.cell? ⟨b,i,none⟩=some x)(r:FracV w (.agg #[x,y,z]) q):g≠b:=by
 rintro rfl;obtain⟨C,c1,c2⟩:=h.sb p;rw[c1.cell] at f;obtain⟨_,_,_,j⟩:=c2 x (mO (by rw[Array.getElem?_toList];exact f));obtain⟨neg,a,m,c,b,k,d,l,_⟩:=r;simp at l;rw[l.1] at j;cases j
theorem SW.done{w u:Vz}{W K wide:Nat}{L S X:List MR}{hs:Vy}{lv sv hv b1 b2:Value}(h:SW w u W K wide L S X hs lv sv hv b1 b2)(x y z:Value):
 Grow (((u.setCell ⟨w.heap.size,0,none⟩ x).setCell ⟨w.heap.size,1,none⟩ y).setCell ⟨w.heap.size,2,none⟩ z) w.heap.size 98 1 IsSl sv S.length (S.map MR.val)/\Grow (((u.setCell ⟨w.heap.size,0,none⟩ x).setCell ⟨w.heap.size,1,none⟩ y).setCell ⟨w.heap.size,2,none⟩ z) w.heap.size 3 1 IsI hv hs.length (headsV hs)/\
  Oks (((u.setCell ⟨w.heap.size,0,none⟩ x).setCell ⟨w.heap.size,1,none⟩ y).setCell ⟨w.heap.size,2,none⟩ z) W K S/\Below w.heap.size w (((u.setCell ⟨w.heap.size,0,none⟩ x).setCell ⟨w.heap.size,1,none⟩ y).setCell ⟨w.heap.size,2,none⟩ z):=by
 have b:Only w.heap.size u (((u.setCell ⟨w.heap.size,0,none⟩ x).setCell ⟨w.heap.size,1,none⟩ y).setCell ⟨w.heap.size,2,none⟩ z):=(((Only.refl _ _).setCell _ _).setCell _ _).setCell _ _;have c:Plain #[.int .i64 0,.slice none 0 0,.slice none 0 0]:=fun v hv=>by
  simp at hv;rcases hv with rfl|rfl
  . exact⟨by simp,by simp⟩
  . exact⟨by simp,by simp⟩
 refine⟨h.rows.keep fun k hk=>b.block k (h.rows.lt hk).2 ?_,h.heads.keep fun k hk=>b.block k (h.heads.lt hk).2 ?_,h.okS.fr (Fr.of_only b h.res c),h.base.trans (b.below lZ h.base.size)⟩
 . obtain⟨D,d1,_⟩:=h.rows.sb hk
   exact d1.unlike h.res row_stairs
 . obtain⟨D,d1,_⟩:=h.heads.sb hk
   exact d1.unlike h.res int_stairs
structure Going (K:Nat) (I:Nat->List Vec->List Vec->List Nat->Prop):Prop where
 fit:∀{c:Nat} {L S:List Vec} {hs:Vy},I c L S hs->∀r,r∈ L->∀i,Fits (r i) K
 skip:∀{c:Nat} {L S:List Vec} {hs:Vy},I c L S hs->(∀r,r∈ L->r c=0)->I (c+1) L S hs
 step:∀{c j:Nat} {L S:List Vec} {hs:Vy} {s:Vec},I c L S hs->L[j]?=some s->s c≠0->I (c+1) ((L.eraseIdx j).map (lessBy c s)) (S++ [s]) (hs++ [c])
theorem Qux{c:Nat}{s r:Vec}(h:r c=0):lessBy c s r=r:=by
 funext i;unfold lessBy;rw[h];grind
theorem Quz(a:Vx)(m c:Nat)(f:Vy)(w:Vz)(h:CRow w a (headsV f))(hl:f.length<=1000):
 Calls prog 208 #[.slice a f.length m,.int .i64 c] w fun e y=>(∃v:Int,e=.returned (.int .i64 v)/\(0<=v↔c∈ f))/\y=w:=by
 have z:=Hi h;clear h;go_enter func208,ntmps208;go_wp2_with fail;go_loopw [8] (fun i wr=>∃k:Nat,k<=f.length/\i=.int .i64 k/\(∀j,j<k->f[j]?≠some c)/\wr=w) (fun i _=>f.length - (intOf i).toNat)
 case atStart=>exact⟨0,Nat.zero_le _,rfl,fun j l=>by omega,rfl⟩
 case round=>
  obtain⟨k,hk,rfl,g,rfl⟩:=hrel;have r:=Hi g;clear g;by_cases n:k<f.length
  .
   obtain⟨x,p⟩:∃x,f[k]?=some x:=⟨f[k],gE n⟩;obtain⟨b,A,rfl,C,d⟩:=z.o.cell k (.int .i64 (x:Nat)) (by simp[headsV,p]);have s:=Hi p;have D:((k:Int)<(f.length:Int)):=by omega
   clear p;by_cases t:c=x
   .
    subst t;have B:((c:Int) == (c:Int))=true:=by simp
    go_wp2;go_ret;exact⟨⟨k,rfl,⟨fun _=>mO s.o,fun _=>by omega⟩⟩,rfl⟩
   .
    have B:((c:Int) == (x:Int))=false:=by rw[beq_eq_false_iff_ne];omega
    go_wp2;go_roundw
    case rel=>
     refine⟨k+1,by omega,by go_num,fun j l=>?_,by first|rfl|trivial⟩;rcases Nat.lt_or_ge j k with u|u
     . exact r.o j u
     .
      obtain rfl:j=k:=by omega
      rw[s.o];intro e;injection e with e
      exact t e.symm
    case measure=>simp[intOf];omega
  .
   have q:k=f.length:=by omega
   subst q;go_wp2;go_ret;refine⟨⟨-1,rfl,⟨fun h=>by omega,fun h=>?_⟩⟩,rfl⟩;obtain⟨j,l⟩:=List.mem_iff_getElem?.1 h;exact absurd l (r.o j (gZ l).1)
theorem Qu0(a:Vx)(f c:Nat)(b:Vy)(w:Vz)(h:CRow w a (headsV b))(hl:b.length<=1000):
 Calls prog 158 #[.slice a b.length f,.int .i64 c] w fun e j=>e=.returned (.bool (decide (c∈ b)))/\j=w:=by
 have k:=Hi h;clear h;go_enter func158,ntmps158;go_wp2_with fail;go_fit (Quz a f c b w k.o hl);rintro e w1 ⟨⟨v,rfl,g⟩,rfl⟩;by_cases d:c∈ b
 .
  have q:(0:Int)<=v:=g.2 d;have i:=Hi d;clear g d;go_wp2;go_ret;exact⟨by rw[decide_eq_true i.o];rfl,rfl⟩
 .
  have q:decide ((0:Int)<=v)=false:=decide_eq_false fun h=>d (g.1 h)
  have i:=Hi d;clear g d;go_wp2;go_ret;exact⟨by rw[decide_eq_false i.o];rfl,rfl⟩
theorem Qll:∀u:Value,u∈ (Value.agg #[.bool false,.slice none 0 0,.slice none 0 0]).cells.toList->True:=fun _ _=>trivial
theorem QRow.one{w:Vz}{a:Vx}{c:Nat}{ts:List FE}(h:QRow w a c ts):∀u,u∈ ts.flatMap FE.cells->u.oneCell'=true:=fun u b=>by
 obtain⟨t,d,b⟩:=List.mem_flatMap.1 b;obtain⟨e,f,g⟩:=(h.ts t d).1.one;simp[FE.cells] at b;rcases b with rfl|rfl|rfl
 . exact e
 . exact f
 . exact g
theorem Qu1(a:Vx)(f:Nat)(ts:List FE)(w:Vz)(h:QRow w a f ts)(hl:ts.length<=1000):
 Calls prog 211 #[.slice a ts.length f] w fun e t=>(∃v,e=.returned v/\Grow t w.heap.size 107 3 (fun _=>True) v ts.length (ts.flatMap FE.cells))/\Below w.heap.size w t:=by
 obtain⟨L,x,D⟩:=Option.map_eq_some_iff.1 Qer;simp only[Prod.mk.injEq] at D;obtain⟨g,m,hz2⟩:=D;have M:∀(w:Vz) (a:Vx) (n c n' y:Nat),(binOp .eql 98 (.slice a n c) (.slice none n' y)).run prog w=.ok (.bool a.isNone) w:=fun w a n c n' y=>Lib.run_eql_slice_nil w _ _ a n c n' y underlying98
 have H:=Hi h;clear h;cases a with
 |none=>
  have z:ts= []:=by
   cases ts with
   |nil=>rfl
   |cons r l=>
    obtain⟨b,A,e,_⟩:=H.o.at (i:=0) (e:=r) rfl;cases e
  subst z;clear x g m hz2;go_enter func211,ntmps211;go_wp2;go_ret;exact⟨⟨_,rfl,Grow.nil _ _ _ _ _⟩,Below.refl _ _⟩
 |some ad=>
  obtain⟨W,hW⟩:=nm (w.alloc (.cells #[] 107));have d:Below w.heap.size w W:=by rw[<-hW];exact(Below.refl _ _).alloc lZ _
  have p:Grow W w.heap.size 107 3 (fun _=>True) (.slice (some ⟨w.heap.size,0,none⟩) 0 0) 0 []:=by rw[<-hW];exact Grow.made w _ _ _
  obtain⟨N,t,B,q,s,C⟩:=p.app (P:=prog) (ty:=98) underlying98 x g m hz2 rfl (by decide) Qll ad ts.length f (ts.flatMap FE.cells) (Qas (c:=FE.cells) (sz:=3) (fun _=>rfl) ts) (fun j u E=>by
   obtain⟨b,A,e,F,G⟩:=H.o.row.row.cell j u E;cases e;rw[Qao]
   exact ce d F G) H.o.one (fun _ _=>trivial) (by omega) (by decide) d.size
  rw[<-hW] at B;obtain⟨I,J,K⟩:=Ib B q (d.grown s d.size (fun k hk=>by simp[Value.ownBlock] at hk;omega));clear B q s C p d hW x g m hz2;go_enter func211,ntmps211;go_wp2_with (at_builtin;refine Qbl _ rfl _ _ 98 98 rfl (.slice (some ⟨w.heap.size,0,none⟩) 0 0) (.slice (some ad) ts.length f) _ _ rfl rfl I.o ?_);go_wp2;go_ret;refine⟨⟨_,rfl,?_⟩,K.o⟩;have:=J.o;rw[Nat.zero_add,List.nil_append] at this;exact this
theorem Qu2{u:Vz}{B:Nat}{v:Value}{r:MR}{s:FE}{W K:Nat}(l:Grow u B 107 3 (fun _=>True) v (W+1) (r.ts.flatMap FE.cells++FE.cells s))(m:∀t,t∈ r.ts->FracV u (.agg #[t.x,t.y,t.z]) t.q/\Fits t.q t.k/\0<t.k)(hl:r.ts.length=W)(hk:∀t,t∈ r.ts->t.k<=K)(n:FracV u (.agg #[s.x,s.y,s.z]) s.q/\Fits s.q s.k/\0<s.k)(f:s.k<=K):
 ∃d:MR,v=.slice d.a d.ts.length d.cap/\MOk u (W+1) K d/\d.q=wider W r.q s.q:=by
 obtain⟨a,g,rfl,o,h,_⟩:=l.slice;have c:(r.ts++ [s]).length=W+1:=by simp[hl]
 have j:(r.ts++ [s]).flatMap FE.cells=r.ts.flatMap FE.cells++FE.cells s:=by simp
 refine⟨⟨a,g,r.ts++ [s]⟩,by simp[hl],⟨⟨⟨by rw[c];exact o,by rw[j];exact h⟩,fun t b=>?_⟩,c,fun t b=>?_⟩,?_⟩
 .
  rcases List.mem_append.1 b with b|b
  . exact m t b
  . obtain rfl:t=s:=by simpa using b
    exact n
 .
  rcases List.mem_append.1 b with b|b
  . exact hk t b
  . obtain rfl:t=s:=by simpa using b
    exact f
 .
  funext i;unfold wider;by_cases e:i=W
  .
   rw[if_pos e,MR.q_at (e:=s)];subst e;rw[<-hl];simp
  .
   rw[if_neg e];rcases Nat.lt_or_ge i W with p|p
   . obtain⟨t,b⟩:∃t,r.ts[i]?=some t:=⟨r.ts[i]'(by omega),gE (by omega)⟩
     rw[MR.q_at b,MR.q_at (e:=t) (by rw[List.getElem?_append_left (by omega)];exact b)]
   . rw[MR.q_beyond (by rw[c];omega),MR.q_beyond (by omega)]
theorem Qu3{P:Program}{ops:Array Oper}{o:Oper}{a:Act}{u:Vz}{K':Act->World->Prop}{Q:Exit->Act->World->Prop}{E:Prop}(G:o.guard=none)(q x:Operand){t e:Vr}(r:o.op=Op.call { callee:=Callee.builtin Builtin.append,args:=#[q,x],argTypes:=#[t,t] })
 {B:Nat} {i:TypeInfo} {z:Value} {sz bytes:Nat} {K:Value->Prop} {v:Value} {n:Nat} {xs:Vv} {s:Addr} {m c:Nat} (H:a.eval q=v) (I:a.eval x=.slice (some s) m c) (h:Grow u B e sz K v n xs)
 (J:P.underlying t=some (.slice e)) (L:P.info? e=some i) (M:i.zero=some z) (d:i.size=sz) (y:i.bytes=bytes) (A:z.cells.size=sz) (C:0<sz) (D:∀u,u∈ z.cells.toList->K u)
 (b:Vv) (hl:b.length=m*sz) (f:∀j w,b[j]?=some w->u.cell? (s.add j)=some w) (N:∀u,u∈ b->u.oneCell'=true) (O:∀u,u∈ b->K u)
 (F:n+m<=1048576) (l:bytes<=1000) (g:B<=u.heap.size)
 (R:∀k p,Grow p B e sz K k (n+m) (xs++b)->u.grownBy p v.ownBlock->(k.ownBlock=v.ownBlock∨k.ownBlock=some u.heap.size)->K' (a.put o.dst k) p):
 if Region.wanted o (yielded ops a.tmps)=true then Oper.wp P o a u K' Q else E:=by
 obtain⟨k,p,S,T,U,V⟩:=h.app (P:=P) (ty:=o.type) J L M d y A C D s m c b hl f N O F l g;exact Qbj G q x r H I S (R k p T U V)
theorem Qu4{w:Vz}{b:Nat}{t:Vr}{x y z:Value}(h:SB w b t #[x,y,z]):∀(j:Nat) (u:Value),[x,y,z][j]?=some u->w.cell? ((⟨b,0,none⟩:Addr).add j)=some u:=fun j u a=>by
 rw[Qao,h.cell,Nat.zero_add,<-a];simp
theorem Qu5{w:Vz}{g k:Nat}{t:Vr}{c:List MR}{b:MR}(h:SB w g t (c.flatMap MR.cells).toArray)(hk:c[k]?=some b):w.cell? ⟨g,k,none⟩=some (.slice b.a b.ts.length b.cap):=by
 rw[h.cell,Qet];simp[hk,MR.val]
theorem Qu6{w:Vz}{g b i:Nat}{t:Vr}{e:List MR}{x y z:Value}{q:Rat}(h:SB w g t (e.flatMap MR.cells).toArray)(f:w.cell? ⟨b,i,none⟩=some x)(n:FracV w (.agg #[x,y,z]) q):b≠g:=by
 rintro rfl;rw[h.cell] at f;obtain⟨_,_,_,j⟩:=mr_sl e x (mO (by simpa using f));obtain⟨neg,a,m,c,b,k,d,l,_⟩:=n;simp at l;rw[l.1] at j;cases j
theorem Qck{w u:Vz}(h:Below w.heap.size w u)(o:Obj):Below w.heap.size w (u.alloc o):=h.alloc h.size o
theorem Qcl{w u:Vz}(h:Below w.heap.size w u):Below w.heap.size w u.drew:=h.drew
theorem Qu7{w:Vz}{B:Nat}{e:Vr}{sz:Nat}{K:Value->Prop}{v:Value}{n:Nat}{xs:Vv}(h:Grow w B e sz K v n xs)(o:Obj):Grow (w.alloc o) B e sz K v n xs:=h.below (bR.alloc lZ _)
theorem Qu8{w:Vz}{B:Nat}{e:Vr}{sz:Nat}{K:Value->Prop}{v:Value}{n:Nat}{xs:Vv}(h:Grow w B e sz K v n xs):Grow w.drew B e sz K v n xs:=h.below bR.drew
theorem Qu9{w u:Vz}{a:Vx}{c:Nat}{ts:List FE}(h:QRow w a c ts)(hl:ts.length<=1000)(d:Below w.heap.size w u):
 Calls prog 211 #[.slice a ts.length c] u fun e f=>(∃v,e=.returned v/\Grow f w.heap.size 107 3 (fun _=>True) v ts.length (ts.flatMap FE.cells))/\Below w.heap.size w f/\∀b t C,SB u b t C->SB f b t C:=by
 refine(Qu1 a c ts u (h.below d) hl).mono ?_;rintro e f ⟨⟨v,rfl,j⟩,g⟩;exact⟨⟨v,rfl,j.mono d.size⟩,d.trans (g.mono d.size),fun b t C i=>i.below g i.lt⟩
theorem Qva{ops:Array Oper}{o:Oper}{a:Act}{u:Vz}{K':Act->World->Prop}{Q:Exit->Act->World->Prop}{E:Prop}(I:o.guard=none)(h x:Operand)(i:o.op=Op.call { callee:=Callee.builtin Builtin.append,args:=#[h,x],argTypes:=#[98,98] })
 {w:Vz} {v:Value} {r:MR} {s:FE} {W K nb c:Nat} (J:a.eval h=v) (L:a.eval x=.slice (some ⟨nb,0,none⟩) 1 c) (hG:Grow u w.heap.size 107 3 (fun _=>True) v W (r.ts.flatMap FE.cells)) (hB:Below w.heap.size w u) (hC:SB u nb 107 #[s.x,s.y,s.z])
 (C:QRow w r.a r.cap r.ts) (hl:r.ts.length=W) (hW:W<=1000) (hk:∀t,t∈ r.ts->t.k<=K) (j:FracV w (.agg #[s.x,s.y,s.z]) s.q/\Fits s.q s.k/\0<s.k) (l:s.k<=K)
 (M:∀b m,MOk m (W+1) K b->b.q=wider W r.q s.q->Below w.heap.size w m->K' (a.put o.dst (.slice b.a b.ts.length b.cap)) m):
 if Region.wanted o (yielded ops a.tmps)=true then Oper.wp prog o a u K' Q else E:=by
 obtain⟨T,N,D⟩:=Option.map_eq_some_iff.1 Qer;simp only[Prod.mk.injEq] at D;obtain⟨n,p,hz2⟩:=D;obtain⟨O,R,S⟩:=j.1.one;refine Qu3 (P:=prog) I h x i J L hG underlying98 N n p hz2 rfl (by decide) Qll [s.x,s.y,s.z] rfl (Qu4 hC) (fun u F=>by
  simp at F;rcases F with rfl|rfl|rfl
  . exact O
  . exact R
  . exact S) (fun _ _=>trivial) (by omega) (by decide) hB.size ?_
 intro U A e f G;have d:Below w.heap.size w A:=hB.grown f hB.size (fun k hk=>(hG.lt hk).1);obtain⟨b,rfl,g,B⟩:=Qu2 (u:=A) (r:=r) (s:=s) (W:=W) (K:=K) e (fun t H=>⟨(C.ts t H).1.below d,(C.ts t H).2⟩) hl hk ⟨j.1.below d,j.2⟩ l;exact M b A g B d
theorem Qvb(a a':Vx)(Q cap' W K:Nat)(rs:List MR)(E:List FE)(w:Vz)(h:QMat w a Q W rs)(hk:∀r,r∈ rs->∀t,t∈ r.ts->t.k<=K)(h':QRow w a' cap' E)(n:∀t,t∈ E->t.k<=K)(R:E.length=rs.length)(hl:rs.length<=1000)(hW:W<=1000):
 Calls prog 167 #[.slice a rs.length Q,.slice a' rs.length cap'] w fun e w'=>(∃(g:Nat) (A:List MR),e=.returned (.slice (some ⟨g,0,none⟩) rs.length rs.length)/\A.length=rs.length/\SB w' g 98 (A.flatMap MR.cells).toArray/\Oks w' (W+1) K A/\∀(i:Nat) (r:MR) (s:FE),rs[i]?=some r->E[i]?=some s->∃b,A[i]?=some b/\b.q=wider W r.q s.q)/\Below w.heap.size w w':=by
 obtain⟨HH,HK⟩:=Ia h hk;have S:=Hi h';have ak:=Hi n;have B:=Hi R;clear R;have T:=fun w=>Qli rs.length (by omega) w
 obtain⟨MC,I⟩:=nm (((List.replicate rs.length MR.none).flatMap MR.cells).toArray);rw[I] at T;have al:=Hi I;clear h hk h' n I;obtain⟨i0,J,hz⟩:=Option.map_eq_some_iff.1 Qer;simp only[Prod.mk.injEq] at hz;obtain⟨U,X,hz2⟩:=hz;obtain⟨HI,a3,a4,a5⟩:=Ic J U X hz2;clear J U X hz2;go_enter func167,ntmps167;go_wp2_with fail;clear T;obtain⟨g,Y⟩:=nm w.heap.size;obtain⟨V,hV⟩:=nm (w.alloc (.cells MC 98));have am:O (Below g w V):=Hi (by rw[<-hV,<-Y];exact(Below.refl _ _).alloc lZ _);have an:O (SB V g 98 ((List.replicate rs.length MR.none).flatMap MR.cells).toArray):=Hi (by rw[<-hV,<-Y,al.o];exact SB.new w _ _)
 try rw[hV]
 try rw[Y]
 clear hV;go_loopw [13] (fun i wr=>∃(k:Nat) (l:List MR),k<=rs.length/\i=.int .i64 k/\l.length=rs.length/\SB wr g 98 (l.flatMap MR.cells).toArray/\(∀(i:Nat) (r:MR) (s:FE),i<k->rs[i]?=some r->E[i]?=some s->∃b,l[i]?=some b/\MOk wr (W+1) K b/\b.q=wider W r.q s.q)/\Below g w wr) (fun i _=>rs.length - (intOf i).toNat)
 case atStart=>exact⟨0,_,by omega,rfl,by simp,an.o,fun i r s J=>by omega,am.o⟩
 case round=>
  obtain⟨k,l,hk,rfl,Z,L,F,hb⟩:=hrel;obtain⟨HB,C,HA⟩:=Ib hb L F;have ao:=L.lt;clear hb L F;by_cases ap:k<rs.length
  .
   obtain⟨r,m⟩:∃r,rs[k]?=some r:=⟨rs[k],gE ap⟩;obtain⟨s,M⟩:∃s,E[k]?=some s:=⟨E[k]'(by have:=B.o;omega),gE (by have:=B.o;omega)⟩;have f:Below w.heap.size w wr:=by rw[Y];exact HB.o
   obtain⟨fb,a6,rfl,a7,d⟩:=(HH.o.below f).at m;obtain⟨hq,aa⟩:=(HH.o.below f).get m;obtain⟨sb,so,rfl,G,d0,d1,d2⟩:=(S.o.below f).at M;obtain⟨N,HQ,HR,aq,ar,au⟩:=Ie ((S.o.below f).get M) hq m M (HK.o r (mO m)) (ak.o s (mO M));obtain⟨o1,o2,o3⟩:=N.o.1.one;have a8:O (∀u,u∈ [s.x,s.y,s.z]->u.oneCell'=true):=Hi (fun u hu=>by
    simp at hu;rcases hu with rfl|rfl|rfl
    . exact o1
    . exact o2
    . exact o3)
   have q1:((k:Int)<(rs.length:Int)):=by omega
   clear m M hq f o1 o2 o3;have D:r.ts.length<=1000:=by omega
   have ab:=Hi (fun u=>Qu9 (u:=u) HQ.o D);rw[aa] at ab;have a1:O (SB wr g 98 (l.flatMap MR.cells).toArray):=C;obtain⟨r0,ad⟩:∃r0,l[k]?=some r0:=⟨l[k]'(by omega),gE (by omega)⟩;obtain⟨av,D0,D1,D2⟩:=Ic ad d0 d1 d2;clear ad;go_wp2_with fail;go_region_held3 (fun v=>v.cell? ⟨sb,so+k*3,none⟩=some s.x/\v.cell? ⟨sb,so+k*3+1,none⟩=some s.y/\v.cell? ⟨sb,so+k*3+2,none⟩=some s.z) ((first|(simp [*];done)|go_keep)) (first
    |(
     go_at_call 211;apply cM;apply ab.o;(focus(repeat(first|exact Below.refl _ _|apply Qck|apply Qcl)));rintro e1 w1 ⟨⟨v1,rfl,ae⟩,af,ag⟩;obtain⟨P,aw,ax⟩:=Ib af ae ag;clear ae af ag;obtain⟨d0,d1,d2⟩:=Jb P.o G D0.o D1.o D2.o;have a9:=P.o.size
     skip)
    |(
     refine Qva rfl (.tmp 21) (.tmp 26) rfl (w:=wr) (v:=v1) (r:=r) (s:=s) (W:=W) (K:=K) rfl rfl ?hG ?hB ?hC HQ.o aa hW ar.o N.o au.o ?_
     case hG=>(focus(repeat(first|exact aw.o|apply Qu7|apply Qu8)))
     case hB=>(focus(repeat(first|exact P.o|apply Qck|apply Qcl)))
     case hC=>(first|exact SB.new _ _ _|exact ax.o _ _ _ (SB.new _ _ _))
     intro b w2 H ah ai;obtain⟨j,ay⟩:=Ia ai H;have az:=Hi ah;clear H ah ai;have c:=Hi (C.o.below j.o C.o.lt);obtain⟨d0,d1,d2⟩:=Jb j.o G D0.o D1.o D2.o;have f0:=c.o.free k;have t0:=Qu5 c.o av.o;have a0:=Qu6 c.o d0 (N.o.1.below j.o);have a2:=a0.symm
     skip)
    |fail)
   all_goals
    go_wp2_with fail;have ho:Only g w2 (w2.setCell ⟨g,k,none⟩ (.slice b.a b.ts.length b.cap)):=(Only.refl _ _).setCell _ _;have aj:Fr w2 (w2.setCell ⟨g,k,none⟩ (.slice b.a b.ts.length b.cap)):=Fr.of_only ho c.o (IsSl.plain fun u hu=>mr_sl l u (by simpa using hu));refine⟨⟨k+1,l.set k b,by omega,by go_num,by rw[List.length_set];exact Z,?_,?_,(HB.o.trans (j.o.mono (Nat.le_of_lt ao))).setCell (p:=⟨g,k,none⟩) lZ _⟩,?_⟩
    .
     have:=c.o.set k (.slice b.a b.ts.length b.cap);rw[Qlh]
     simpa using this
    .
     intro i x y J hx hy;rcases Nat.lt_or_ge i k with h1|h1
     . obtain⟨z,z1,z2,z3⟩:=HA.o i x y h1 hx hy
       exact⟨z,by rw[List.getElem?_set_ne (by omega)];exact z1,(z2.fr (Fr.of_below j.o)).fr aj,z3⟩
     .
      obtain rfl:i=k:=by omega
      obtain rfl:=Option.some.inj (HR.o.symm.trans hx);obtain rfl:=Option.some.inj (aq.o.symm.trans hy);exact⟨b,by rw[List.getElem?_set_self (by omega)],ay.o.fr aj,az.o⟩
    . simp[intOf]
      omega
  .
   have n:k=rs.length:=by omega
   subst n;go_wp2;go_ret;rw[Y];refine⟨⟨g,l,rfl,Z,C.o,fun r m=>?_,fun i r s m M=>?_⟩,HB.o⟩
   .
    obtain⟨i,J⟩:=List.mem_iff_getElem?.1 m;have ba:=(gZ J).1;obtain⟨z,z1,z2,_⟩:=HA.o i (rs[i]'(by omega)) (E[i]'(by have:=B.o;omega)) (by omega) (gE (by omega)) (gE (by have:=B.o;omega));obtain rfl:=Option.some.inj (J.symm.trans z1);exact z2
   . obtain⟨z,z1,_,z3⟩:=HA.o i r s (gZ m).1 m M
     exact⟨z,z1,z3⟩
def redFits(K:Nat)(r:Vec):List Vec->List Nat->Prop
 |t :: T,h :: hs=>(∀i,Fits (r i) K)/\redFits K (fun i=>r i - t i*r h) T hs
 |_,_=>∀i,Fits (r i) K
def clnFits(K:Nat):List Vec->List Nat->Prop
 |r :: S,h :: hs=>clnFits K S hs/\redFits K (fun i=>r i / r h) (cln S hs) hs
 |_,_=>True
theorem redFits.here{K:Nat}{r:Vec}:∀{T:List Vec} {hs:Vy},redFits K r T hs->∀i,Fits (r i) K
 |_ :: _,_ :: _,h=>h.1
 | [],_,h=>by unfold redFits at h;exact h
 |_ :: _,[],h=>by unfold redFits at h;exact h
theorem clnFits.drop{K:Nat}:∀{S:List Vec} {hs:Vy} (i:Nat),clnFits K S hs->clnFits K (S.drop i) (hs.drop i)
 |_,_,0,h=>h
 |r :: S,h :: hs,i+1,k=>clnFits.drop i k.1
 | [],_,i+1,h=>by rw[List.drop_nil];trivial
 |r :: S,[],i+1,h=>by
  rw[List.drop_nil];generalize List.drop (i+1) (r :: S)=T;cases T<;>simp[clnFits]
structure CW (w u:Vz) (B W K:Nat) (S:List MR) (hs:Vy) (wd sv hv:Value):Prop where
 box:SB u w.heap.size 195 #[wd,sv,hv]
 rows:Grow u B 98 1 IsSl sv S.length (S.map MR.val)
 heads:Grow u B 3 1 IsI hv hs.length (headsV hs)
 ok:Oks u W K S
 base:∀k,k<w.heap.size->sv.ownBlock≠some k->u.heap[k]?=w.heap[k]?
 o:u.os=w.os/\u.tape=w.tape/\u.output=w.output/\w.heap.size<=u.heap.size
section
variable {w u:Vz} {B W K:Nat} {S:List MR} {hs:Vy} {wd sv hv:Value}
theorem CW.below{c:Vz}(h:CW w u B W K S hs wd sv hv)(a:Bl u c):CW w c B W K S hs wd sv hv:=
 ⟨h.box.below a h.box.lt,h.rows.below a,h.heads.below a,h.ok.fr (Fr.of_below a),fun k hk b=>(a.block k (Nat.lt_of_lt_of_le hk h.o.2.2.2)).trans (h.base k hk b),⟨a.os.trans h.o.1,a.tape.trans h.o.2.1,a.output.trans h.o.2.2.1,Nat.le_trans h.o.2.2.2 a.size⟩⟩
theorem CW.set{g b m n:Nat}{r:MR}(h:CW w u B W K S hs wd (.slice (some ⟨g,0,none⟩) n b) hv)(i:n=S.length)(j:m<S.length)(l:MOk u W K r):CW w (u.setCell ⟨g,m,none⟩ r.val) B W K (S.set m r) hs wd (.slice (some ⟨g,0,none⟩) n b) hv:=by
 subst i;have a:Only g u (u.setCell ⟨g,m,none⟩ r.val):=(Only.refl _ _).setCell _ _;obtain⟨C,c1,c2⟩:=h.rows.sb (g:=g) rfl;have c:=Fr.of_only a c1 (IsSl.plain c2);refine⟨h.box.only a (h.box.unlike c1 row_stairs.symm),?_,h.heads.keep fun k hk=>a.block k (h.heads.lt hk).2 ?_,fun x f=>?_,fun k hk d=>?_,⟨a.os.trans h.o.1,a.tape.trans h.o.2.1,a.output.trans h.o.2.2.1,Nat.le_trans h.o.2.2.2 a.size⟩⟩
 . rw[List.length_set,List.map_set]
   exact h.rows.set j ⟨_,_,_,rfl⟩
 . obtain⟨D,d1,_⟩:=h.heads.sb hk
   exact d1.unlike c1 int_row
 .
  rcases List.mem_or_eq_of_mem_set f with f|rfl
  . exact(h.ok x f).fr c
  . exact l.fr c
 .
  refine(a.block k (Nat.lt_of_lt_of_le hk h.o.2.2.2) (fun e=>d ?_)).trans (h.base k hk d);subst e;rfl
end
theorem Qvc(x:Rat):(0:Rat) / x=0:=by grind
theorem Qvd(x:Rat):(0:Rat) - 0*x=0:=by grind
theorem Grow.crow{w:Vz}{B sz l b:Nat}{e:Vr}{K:Value->Prop}{a:Vx}{n:Nat}{xs:Vv}(h:Grow w B e sz K (.slice a l b) n xs):CRow w a xs:=by
 obtain⟨f,cap',e,_,c,_⟩:=h.slice;injection e with d _ _
 rw[d];exact c
theorem Qve{r t:Vec}{h:Nat}{T:List Vec}{hs:Vy}(a:r h=0):red r (t :: T) (h :: hs)=red r T hs:=by
 have e:(fun i=>r i - t i*r h)=r:=by funext i;rw[a];grind
 simp only[red];rw[e]
theorem redFits.next{K:Nat}{r t:Vec}{h:Nat}{T:List Vec}{hs:Vy}(k:redFits K r (t :: T) (h :: hs)):redFits K (fun i=>r i - t i*r h) T hs:=k.2
theorem redFits.skip{K:Nat}{r t:Vec}{h:Nat}{T:List Vec}{hs:Vy}(k:redFits K r (t :: T) (h :: hs))(a:r h=0):redFits K r T hs:=by
 have e:(fun i=>r i - t i*r h)=r:=by funext i;rw[a];grind
 have:=k.2;rw[e] at this;exact this
theorem Qc7{α:Type}{l:List α}{i:Nat}{x:α}(h:l[i]?=some x):l.drop i=x :: l.drop (i+1):=by
 obtain⟨a,b⟩:=gZ h;rw[List.drop_eq_getElem_cons a,b]
theorem Qvf{K:Nat}{S a:List MR}{hs:Vy}{j h:Nat}{r:MR}(hl:S.length=hs.length)(e:S[j]?=some r)(f:hs[j]?=some h)(g:(a.drop (j+1)).map MR.q=cln ((S.map MR.q).drop (j+1)) (hs.drop (j+1)))(k:clnFits K (S.map MR.q) hs):
 cln ((S.map MR.q).drop j) (hs.drop j)=red (fun i=>r.q i / r.q h) ((a.drop (j+1)).map MR.q) (hs.drop (j+1)) :: (a.drop (j+1)).map MR.q/\redFits K (fun i=>r.q i / r.q h) ((a.drop (j+1)).map MR.q) (hs.drop (j+1)):=by
 have b:(S.map MR.q).drop j=r.q :: (S.map MR.q).drop (j+1):=Qc7 (by rw[List.getElem?_map,e];rfl);have c:=Qc7 f;have d:=k.drop j;rw[b,c] at d;rw[b,c,g];exact⟨rfl,d.2⟩
theorem Qf1:∀(W:Nat) (r s x:Vec),dot W (fun i=>r i+s i) x=dot W r x+dot W s x
 |0,_,_,_=>by simp only[dot];grind
 |W+1,r,s,x=>by simp only[dot,Qf1 W r s x];grind
theorem Qd7:∀(W:Nat) (r x:Vec) (q:Rat),dot W (fun i=>r i*q) x=dot W r x*q
 |0,_,_,_=>by simp[dot]
 |W+1,r,x,q=>by simp only[dot,Qd7 W r x q];grind
def Span(k:Nat)(R:Nat->Vec)(v:Vec):Prop:=∃l:Vec,∀j,v j=dot k l (fun i=>R i j)
def MI(W N:Nat)(M:List Vec)(c:Nat)(L S:List Vec)(hs:Vy):Prop:=
 hs.length<=c/\(hs.length+L.length<=N∨hs.length<=N/\W<=N)/\(∀v,v∈ L->∀i,W<=i->v i=0)/\
 ∃R:Nat->Vec,(∀i,i<hs.length->R i∈ M)/\
  (∀m:Vec,(∀h,h∈ hs->dot hs.length m (fun i=>R i h)=0)->∀i,i<hs.length->m i=0)/\
  (∀v,v∈ L->∃r,r∈ M/\∃l:Vec,(∀j,v j=r j - dot hs.length l (fun i=>R i j))/\∀h,h∈ hs->v h=0)/\∀s,s∈ S->Span hs.length R s
theorem MI.start(W N:Nat)(M:List Vec)(b:∀v,v∈ M->∀i,W<=i->v i=0)(f:M.length<=N∨W<=N):MI W N M 0 M [] []:=
 ⟨Nat.le_refl _,by simp only[List.length_nil];omega,b,fun _ _=>0,fun i a=>absurd a (by simp),fun m _ i a=>absurd a (by simp),fun v c=>⟨v,c,fun _=>0,fun j=>by simp[dot,Rat.sub_eq_add_neg,Rat.add_zero],fun h d=>by cases d⟩,fun s e=>by cases e⟩
theorem MI.skip{W N:Nat}{M:List Vec}{c:Nat}{L S:List Vec}{a:Vy}(h:MI W N M c L S a):MI W N M (c+1) L S a:=by
 obtain⟨f,b,d,e⟩:=h;exact⟨by omega,b,d,e⟩
theorem MI.step{W N:Nat}{M:List Vec}{c j:Nat}{L S:List Vec}{a:Vy}{s:Vec}(h:MI W N M c L S a)(F:L[j]?=some s)(y:s c≠0):
 MI W N M (c+1) ((L.eraseIdx j).map (lessBy c s)) (S++ [s]) (a++ [c]):=by
 obtain⟨h1,h2,z,R,P,Q,G,T⟩:=h;have n:s∈ L:=mO F;have A:j<L.length:=(gZ F).1;have B:((L.eraseIdx j).map (lessBy c s)).length=L.length - 1:=by rw[List.length_map,List.length_eraseIdx_of_lt A]
 obtain⟨r,U,l,hl,H⟩:=G s n;have b:(a++ [c]).length=a.length+1:=by simp
 have V:c<W:=bC fun hn=>y (z s n c (by omega))
 have d:∀(m:Vec) (i:Nat),dot (a.length+1) m (fun t=>(if t=a.length then r else R t) i)=dot a.length m (fun t=>R t i)+m a.length*r i:=fun m i=>by
  simp only[dot];rw[Qac a.length m _ m (fun t=>R t i) (fun t p=>by rw[if_neg (by omega)])];simp
 refine⟨by rw[b];omega,by rw[b,B];omega,?_,fun t=>if t=a.length then r else R t,?_,?_,?_,?_⟩
 .
  intro v f i q;obtain⟨u,C,rfl⟩:=List.mem_map.1 f;have o:=List.mem_of_mem_eraseIdx C;simp only[lessBy];rw[z u o i q,z s n i q];grind
 .
  intro i q;rw[b] at q;by_cases x:i=a.length
  . show (if i=a.length then r else R i)∈ M
    rw[if_pos x];exact U
  . show (if i=a.length then r else R i)∈ M
    rw[if_neg x];exact P i (by omega)
 .
  intro m I;rw[b] at I ⊢;have w:∀h,h∈ a++ [c]->dot a.length m (fun t=>R t h)+m a.length*r h=0:=fun h e=>by rw[<-d];exact I h e
  have g:∀i,r i=s i+dot a.length l (fun t=>R t i):=fun i=>by rw[hl i];grind
  have k:∀h,dot a.length (fun t=>m t+l t*m a.length) (fun t=>R t h)=dot a.length m (fun t=>R t h)+dot a.length l (fun t=>R t h)*m a.length:=fun h=>by rw[Qf1,Qd7]
  have hk:=Q (fun t=>m t+l t*m a.length) (fun h e=>by
   rw[k];have X:=w h (by simp[e]);rw[g h,H h e] at X
   grind)
  have Y:=w c (by simp);rw[g c] at Y;have Z:dot a.length (fun t=>m t+l t*m a.length) (fun t=>R t c)=0:=Qbv _ _ _ (fun t p=>by rw[hk t p];grind);rw[k] at Z;have e4:m a.length*s c=0:=by grind
  have J:m a.length=0:=by
   rcases Rat.mul_eq_zero.1 e4 with h|h
   . exact h
   . exact absurd h y
  intro i q;by_cases x:i=a.length
  . rw[x];exact J
  .
   have:=hk i (by omega);simp only[J] at this;grind
 .
  intro v f;obtain⟨u,C,rfl⟩:=List.mem_map.1 f;have o:=List.mem_of_mem_eraseIdx C;obtain⟨r',D,K,E,g⟩:=G u o;refine⟨r',D,fun t=>if t=a.length then u c / s c else K t - l t*(u c / s c),fun i=>?_,fun h e=>?_⟩
  .
   rw[b,d];rw[Qac a.length _ _ (fun t=>K t - l t*(u c / s c)) (fun t=>R t i) (fun t p=>by rw[if_neg (by omega)]),Qbw];simp only[lessBy,if_true];rw[E i,hl i];grind
  .
   simp only[lessBy];rcases List.mem_append.1 e with e|e
   . rw[g h e,H h e];grind
   .
    simp only[List.mem_singleton] at e;subst e;rw[Rat.div_def,Rat.mul_comm (u h),<-Rat.mul_assoc,Rat.mul_inv_cancel _ y];grind
 .
  intro v f;rw[b];rcases List.mem_append.1 f with f|f
  .
   obtain⟨O,e0⟩:=T v f;refine⟨fun t=>if t=a.length then 0 else O t,fun i=>?_⟩;rw[d,Qac a.length _ _ O (fun t=>R t i) (fun t p=>by rw[if_neg (by omega)]),e0 i];simp only[if_true];grind
  .
   simp only[List.mem_singleton] at f;subst f;refine⟨fun t=>if t=a.length then 1 else l t*(-1),fun i=>?_⟩;rw[d,Qac a.length _ _ (fun t=>l t*(-1)) (fun t=>R t i) (fun t p=>by rw[if_neg (by omega)]),Qd7,hl i];simp only[if_true];grind
theorem Qd8:∀(n:Nat) (u x:Nat->Int),((Sg.isum n (fun j=>u j*x j):Int):Rat)=dot n (fun j=>(x j:Rat)) (fun j=>(u j:Rat))
 |0,_,_=>by simp[Sg.isum,dot]
 |n+1,u,x=>by
  simp only[Sg.isum,dot];rw[Rat.intCast_add,Rat.intCast_mul,Qd8 n u x];grind
theorem Qf2:∀(W:Nat) (r x:Vec) (q:Rat),dot W r (fun i=>x i*q)=dot W r x*q
 |0,_,_,_=>by simp[dot]
 |W+1,r,x,q=>by simp only[dot,Qf2 W r x q];grind
theorem Qf3{v:Rat}{Z y:Int}{d K:Nat}(c:y≠0)(f:0<d)(e:v*((y:Rat)*(d:Rat))=(Z:Rat))(q:Z.natAbs<2 ^ K)(g:y.natAbs*d<2 ^ K)(i:0<K):Fits v K:=by
 have j:(y:Rat)≠0:=by
  intro h;exact c (Rat.intCast_inj.1 (by rw[h];rfl))
 have k:(d:Rat)≠0:=by
  intro h;have:d=0:=Rat.natCast_inj.1 (by rw[h];rfl);omega
 have l:∃a:Int,a.natAbs=Z.natAbs/\v*((y.natAbs*d:Nat):Rat)=(a:Rat):=by
  rw[Rat.natCast_mul];rcases Int.natAbs_eq y with b|b
  .
   refine⟨Z,rfl,?_⟩;rw[<-e];have:(y:Rat)=((y.natAbs:Nat):Rat):=by
    rw[<-Rat.intCast_natCast,<-b]
   rw[this]
  .
   refine⟨-Z,Int.natAbs_neg Z,?_⟩;have:(y:Rat)= -((y.natAbs:Nat):Rat):=by
    rw[<-Rat.intCast_natCast,<-Rat.intCast_neg,<-b]
   rw[Rat.intCast_neg,<-e,this];grind
 obtain⟨a,r,m⟩:=l;have n:0<y.natAbs*d:=Nat.mul_pos (by omega) f;have o:((y.natAbs*d:Nat):Rat)≠0:=by
  intro h;have:y.natAbs*d=0:=Rat.natCast_inj.1 (by rw[h];rfl);omega
 have p:v=mkRat a (y.natAbs*d):=by
  rw[Rat.mkRat_eq_div,<-m,Rat.div_def,Rat.mul_assoc,Rat.mul_inv_cancel _ o,Rat.mul_one]
 rw[p];exact Fits.mk (by omega) g i
theorem MI.fit{W0 W a K:Nat}{M:List Vec}{D:Nat->Nat}(U:0<a)(E:∀j,0<D j/\D j<=a)(hM:∀r,r∈ M->∀j,∃z:Int,r j*(D j:Rat)=(z:Rat)/\z.natAbs<=a)
 (hK:(W+1)*(a*(2*((W+1)*a)) ^ W)<2 ^ K) (F:0<K) {c:Nat} {L S:List Vec} {o:Vy} (h:MI W0 W M c L S o):∀v,v∈ L->∀j,Fits (v j) K:=by
 obtain⟨_,hW,_,R,V,G,hL,_⟩:=h;intro v hv j;obtain⟨r,hr,l,hl,H⟩:=hL v hv;obtain⟨k,hk⟩:=nm o.length;rw[hk] at hW V G hl;replace hW:k<=W:=by omega
 have I:∀t,t<k+1->(if t=k then r else R t)∈ M:=fun t b=>by
  by_cases B:t=k
  . rw[if_pos B];exact hr
  . rw[if_neg B];exact V t (by omega)
 have d:∀t,t<k+1->∀i,(if t=k then r else R t) i*(D i:Rat)=((((if t=k then r else R t) i*(D i:Rat)).num:Int):Rat)/\(((if t=k then r else R t) i*(D i:Rat)).num).natAbs<=a:=fun t b i=>by
  obtain⟨z,e,H⟩:=hM _ (I t b) i;rw[e,Rat.num_intCast];exact⟨rfl,H⟩
 obtain⟨y,⟨X,aa,p⟩,hy,u⟩:=Sg.siegel k a U (fun t i=>((if i=k then r else R i) (o.getD t 0)*(D (o.getD t 0):Rat)).num) (fun t i b hi=>by
  have:=(d i hi (o.getD t 0)).2
  omega)
 have w:∀i,dot (k+1) (fun t=>(y t:Rat)) (fun t=>(if t=k then r else R t) i)=dot k (fun t=>(y t:Rat)) (fun t=>R t i)+(y k:Rat)*r i:=fun i=>by
  simp only[dot];rw[Qac k _ _ (fun t=>(y t:Rat)) (fun t=>R t i) (fun t b=>by rw[if_neg (by omega)])];simp
 have m:∀i,((Sg.isum (k+1) (fun t=>((if t=k then r else R t) i*(D i:Rat)).num*y t):Int):Rat)=(dot k (fun t=>(y t:Rat)) (fun t=>R t i)+(y k:Rat)*r i)*(D i:Rat):=fun i=>by
  rw[Qd8,<-w,<-Qf2];exact Qac _ _ _ _ _ (fun t b=>by rw[<-(d t b i).1])
 have J:∀i,(D i:Rat)≠0:=fun i h=>by
  have q:D i=0:=Rat.natCast_inj.1 (by rw[h];rfl);have:=(E i).1;omega
 have f:∀h,h∈ o->dot k (fun t=>(y t:Rat)) (fun t=>R t h)+(y k:Rat)*r h=0:=fun h s=>by
  obtain⟨t,b,e⟩:=List.mem_iff_getElem.1 s;have q:=hy t (by omega);have N:o.getD t 0=h:=by rw[List.getD_eq_getElem?_getD,gE b,e];rfl
  simp only[N] at q;have C:=m h;rw[q] at C;rcases Rat.mul_eq_zero.1 C.symm with O|O
  . exact O
  . exact absurd O (J h)
 have P:y k≠0:=by
  intro Z;have x:=G (fun t=>(y t:Rat)) (fun h s=>by
   have:=f h s;rw[Z,show ((0:Int):Rat)=0 from rfl] at this
   grind)
  by_cases B:X=k
  . rw[B] at p;exact p Z
  . have:=x X (by omega)
    exact p (Rat.intCast_inj.1 (by rw[this];rfl))
 have n:∀i,dot k (fun t=>(y t:Rat)+l t*(y k:Rat)) (fun t=>R t i)=dot k (fun t=>(y t:Rat)) (fun t=>R t i)+dot k l (fun t=>R t i)*(y k:Rat):=fun i=>by rw[Qf1,Qd7]
 have A:=G (fun t=>(y t:Rat)+l t*(y k:Rat)) (fun h s=>by
  rw[n];have e1:=f h s;have N:=hl h;rw[H h s] at N
  grind)
 have Q:dot k (fun t=>(y t:Rat)+l t*(y k:Rat)) (fun t=>R t j)=0:=Qbv _ _ _ (fun t b=>by rw[A t b];grind);rw[n] at Q;have T:v j*((y k:Rat)*(D j:Rat))=((Sg.isum (k+1) (fun t=>((if t=k then r else R t) j*(D j:Rat)).num*y t):Int):Rat):=by
  rw[m,hl j];grind
 have g:(2*((k+1)*a)) ^ k<=(2*((W+1)*a)) ^ W:=
  Nat.le_trans (Nat.pow_le_pow_left (Nat.mul_le_mul_left _ (Nat.mul_le_mul_right _ (by omega))) k) (Nat.pow_le_pow_right (Nat.mul_pos (by omega) (Nat.mul_pos (by omega) U)) hW)
 obtain⟨Y,hY⟩:=nm ((2*((W+1)*a)) ^ W);rw[hY] at g hK;have hb:=Sg.isum_le (k+1) (fun t=>((if t=k then r else R t) j*(D j:Rat)).num*y t) (-((a*Y:Nat):Int)) ((a*Y:Nat):Int) (fun t b=>by
  have q:=(d t b j).2;have C:(((if t=k then r else R t) j*(D j:Rat)).num*y t).natAbs<=a*Y:=by
   rw[Int.natAbs_mul];exact Nat.mul_le_mul q (Nat.le_trans (u t) g)
  omega)
 have ab:(k+1)*(a*Y)<=(W+1)*(a*Y):=Nat.mul_le_mul_right _ (by omega);refine Qf3 P (E j).1 T ?_ ?_ F
 . rw[Int.mul_neg,<-Int.natCast_mul] at hb
   omega
 .
  have q:(y k).natAbs*D j<=Y*a:=Nat.mul_le_mul (Nat.le_trans (u k) g) (E j).2;have C:a*Y<=(W+1)*(a*Y):=Nat.le_mul_of_pos_left _ (by omega);rw[Nat.mul_comm Y a] at q;omega
theorem Span.less{k:Nat}{R:Nat->Vec}{v u:Vec}(h:Span k R v)(a:Span k R u)(q:Rat):Span k R (fun i=>v i - u i*q):=by
 obtain⟨l,e⟩:=h;obtain⟨b,c⟩:=a;refine⟨fun t=>l t - b t*q,fun j=>?_⟩
 show v j - u j*q=_
 rw[Qbw,e j,c j];grind
theorem Span.over{k:Nat}{R:Nat->Vec}{v:Vec}(h:Span k R v)(q:Rat):Span k R (fun i=>v i / q):=by
 obtain⟨l,e⟩:=h;refine⟨fun t=>l t / q,fun j=>?_⟩
 show v j / q=_
 rw[Qd0,e j]
theorem Qf4{k:Nat}{R:Nat->Vec}:∀(T:List Vec) (a:Vy) (r:Vec),Span k R r->(∀t,t∈ T->Span k R t)->Span k R (red r T a)
 |t :: T,h :: a,r,hr,hT=>by
  simp only[red];exact Qf4 T a _ (hr.less (hT t (by simp)) _) (fun t b=>hT t (by simp[b]))
 | [],_,r,hr,hT=>by unfold red;exact hr
 |_ :: _,[],r,hr,hT=>by unfold red;exact hr
theorem Qjk{k:Nat}{R:Nat->Vec}:∀(S:List Vec) (b:Vy),(∀s,s∈ S->Span k R s)->∀v,v∈ cln S b->Span k R v
 |r :: S,h :: b,hS,v,a=>by
  have c:=Qjk S b (fun s b=>hS s (by simp[b]));simp only[cln,List.mem_cons] at a;rcases a with rfl|a
  . exact Qf4 _ _ _ ((hS r (by simp)).over _) c
  . exact c v a
 | [],_,_,v,a=>by unfold cln at a;cases a
 |_ :: _,[],_,v,a=>by unfold cln at a;cases a
theorem Qjl{W a K k:Nat}{M:List Vec}{D:Nat->Nat}{R:Nat->Vec}{H:Vy}(ha:0<a)(N:∀j,0<D j/\D j<=a)(hM:∀r,r∈ M->∀j,∃z:Int,r j*(D j:Rat)=(z:Rat)/\z.natAbs<=a)
 (hK:(W+1)*(a*(2*((W+1)*a)) ^ W)*a<2 ^ K) (P:0<K) (Q:H.length=k) (hW:k<=W) (hR:∀i,i<k->R i∈ M)
 (hI:∀m:Vec,(∀h,h∈ H->dot k m (fun i=>R i h)=0)->∀i,i<k->m i=0) {v:Vec} (hv:Span k R v) {h:Nat} (hh:h∈ H) (A:v h=1) (h0:∀x,x∈ H->x≠h->v x=0) (j:Nat):Fits (v j) K:=by
 obtain⟨B,C,hH⟩:=List.append_of_mem hh;obtain⟨n,hn⟩:=nm ((B++C).length);have S:k=n+1:=by rw[<-Q,hH,<-hn];simp;omega
 subst S;obtain⟨l,hl⟩:=hv;have c:∀t,t<n+1->∀i,R t i*(D i:Rat)=(((R t i*(D i:Rat)).num:Int):Rat)/\((R t i*(D i:Rat)).num).natAbs<=a:=fun t p i=>by
  obtain⟨z,e,hz⟩:=hM _ (hR t p) i;rw[e,Rat.num_intCast];exact⟨rfl,hz⟩
 obtain⟨y,⟨j0,T,U⟩,hy,V⟩:=Sg.siegel n a ha (fun t i=>(R i ((B++C).getD t 0)*(D ((B++C).getD t 0):Rat)).num) (fun t i p hi=>by
  have:=(c i hi ((B++C).getD t 0)).2
  omega)
 have f:∀i,((Sg.isum (n+1) (fun t=>(R t i*(D i:Rat)).num*y t):Int):Rat)=dot (n+1) (fun t=>(y t:Rat)) (fun t=>R t i)*(D i:Rat):=fun i=>by
  rw[Qd8,<-Qf2];exact Qac _ _ _ _ _ (fun t p=>by rw[<-(c t p i).1])
 have F:∀i,(D i:Rat)≠0:=fun i h=>by
  have A:D i=0:=Rat.natCast_inj.1 (by rw[h];rfl);have:=(N i).1;omega
 have o:∀x,x∈ B++C->dot (n+1) (fun t=>(y t:Rat)) (fun t=>R t x)=0:=fun x b=>by
  obtain⟨t,p,e⟩:=List.mem_iff_getElem.1 b;have A:=hy t (by omega);have e2:(B++C).getD t 0=x:=by rw[List.getD_eq_getElem?_getD,gE p,e];rfl
  simp only[e2] at A;have X:=f x;rw[A] at X;rcases Rat.mul_eq_zero.1 X.symm with q|q
  . exact q
  . exact absurd q (F x)
 have s:∀x,x∈ H->x=h∨x∈ B++C:=fun x b=>by
  rw[hH] at b;simp only[List.mem_append,List.mem_cons] at b ⊢;rcases b with b|b|b
  . exact .inr (.inl b)
  . exact .inl b
  . exact .inr (.inr b)
 obtain⟨g,G⟩:∃g:Vec,∀i,g i=dot (n+1) (fun t=>(y t:Rat)) (fun t=>R t i):=⟨fun i=>dot (n+1) (fun t=>(y t:Rat)) (fun t=>R t i),fun _=>rfl⟩;have aa:g h≠0:=by
  intro e;have:=hI (fun t=>(y t:Rat)) (fun x b=>by
   rcases s x b with rfl|b
   . rw[<-G];exact e
   . exact o x b) j0 T
  exact U (Rat.intCast_inj.1 (by rw[this];rfl))
 have I:=hI (fun t=>(y t:Rat) - l t*g h) (fun x b=>by
  rw[Qbw,<-G,<-hl];by_cases he:x=h
  . rw[he,A];grind
  .
   rcases s x b with E|E
   . exact absurd E he
   . rw[G,o x E,h0 x b he];grind)
 have ab:g j=v j*g h:=by
  have q:dot (n+1) (fun t=>(y t:Rat) - l t*g h) (fun t=>R t j)=0:=Qbv _ _ _ (fun t p=>by rw[I t p];grind);rw[Qbw,<-G,<-hl] at q;grind
 have u:(2*((n+1)*a)) ^ n<=(2*((W+1)*a)) ^ W:=
  Nat.le_trans (Nat.pow_le_pow_left (Nat.mul_le_mul_left _ (Nat.mul_le_mul_right _ (by omega))) n) (Nat.pow_le_pow_right (Nat.mul_pos (by omega) (Nat.mul_pos (by omega) ha)) (by omega))
 obtain⟨Y,hY⟩:=nm ((2*((W+1)*a)) ^ W);rw[hY] at u hK;have O:∀i,(Sg.isum (n+1) (fun t=>(R t i*(D i:Rat)).num*y t)).natAbs<=(W+1)*(a*Y):=fun i=>by
  have O:=Sg.isum_le (n+1) (fun t=>(R t i*(D i:Rat)).num*y t) (-((a*Y:Nat):Int)) ((a*Y:Nat):Int) (fun t p=>by
   have A:=(c t p i).2;have X:((R t i*(D i:Rat)).num*y t).natAbs<=a*Y:=by
    rw[Int.natAbs_mul];exact Nat.mul_le_mul A (Nat.le_trans (V t) u)
   omega)
  have af:(n+1)*(a*Y)<=(W+1)*(a*Y):=Nat.mul_le_mul_right _ (by omega);rw[Int.mul_neg,<-Int.natCast_mul] at O;omega
 have ej:=f j;have J:=f h;rw[<-G] at ej J;have bj:=O j;have bh:=O h;obtain⟨Gj,ad⟩:∃z,Sg.isum (n+1) (fun t=>(R t j*(D j:Rat)).num*y t)=z:=⟨_,rfl⟩;obtain⟨Gh,ae⟩:∃z,Sg.isum (n+1) (fun t=>(R t h*(D h:Rat)).num*y t)=z:=⟨_,rfl⟩;rw[ad] at ej bj;rw[ae] at J bh;have L:Gh≠0:=by
  intro e;rw[e] at J;rcases Rat.mul_eq_zero.1 J.symm with q|q
  . exact aa q
  . exact F h q
 have w:∀x d:Nat,x<=(W+1)*(a*Y)->d<=a->x*d<2 ^ K:=fun x d b hd=>Nat.lt_of_le_of_lt (Nat.mul_le_mul b hd) hK
 refine Qf3 (Z:=Gj*(D h:Int)) L (N j).1 ?_ ?_ ?_ P
 . rw[Rat.intCast_mul,Rat.intCast_natCast,ej,J,ab]
   grind
 . rw[Int.natAbs_mul,Int.natAbs_natCast]
   exact w _ _ bj (N h).2
 . exact w _ _ bh (N j).2
theorem Qjm{K B j:Nat}(hB:0<B):∀{T:List Vec} {a:Vy} {J lo b:Nat} {r:Vec},Cln lo b T a->(∀t,t∈ T->∀i,Fits (t i) B)->(∀i,Fits (r i) J)->(∀h,h∈ a->Fits (r h) j)->J+T.length*(B+j+1)<=K->redFits K r T a/\∀i,Fits (red r T a i) (J+T.length*(B+j+1))
 | [],[],J,lo,b,r,hc,hT,hr,hh,hK=>by
   simp only[List.length_nil,Nat.zero_mul,Nat.add_zero] at hK ⊢;unfold redFits red;exact⟨fun i=>(hr i).mono hK,hr⟩
 |t :: T,h :: a,J,lo,b,r,⟨c1,c2,c3,c4,c5⟩,hT,hr,hh,hK=>by
  have e:(t :: T).length*(B+j+1)=T.length*(B+j+1)+(B+j+1):=by rw[List.length_cons,Nat.succ_mul]
  rw[e] at hK ⊢;have f:∀i,Fits (r i - t i*r h) (J+(B+j)+1):=fun i=>(hr i).sub ((hT t (by simp) i).mul (hh h (by simp)) hB)
  have c:=Qjm (K:=K) (j:=j) hB (J:=J+(B+j)+1) (r:=fun i=>r i - t i*r h) c5 (fun t g=>hT t (by simp[g])) f (fun x d=>by
   have:r x - t x*r h=r x:=by rw[c4 x d];grind
   rw[this]
   exact hh x (by simp[d])) (by omega)
  refine⟨⟨fun i=>(hr i).mono (by omega),c.1⟩,fun i=>?_⟩;have:=c.2 i;rw[show J+(B+j)+1+T.length*(B+j+1)=J+(T.length*(B+j+1)+(B+j+1)) by omega] at this;exact this
 | [],_ :: _,_,_,_,_,hc,_,_,_,_=>absurd hc (by simp[Cln])
 |_ :: _,[],_,_,_,_,hc,_,_,_,_=>absurd hc (by simp[Cln])
theorem Qjn{K K2 k n:Nat}{R:Nat->Vec}{H:Vy}(w:0<K2)(A:K2+n*(K2+K2+1)<=K)
 (c:∀(v:Vec) (h:Nat),Span k R v->h∈ H->v h=1->(∀x,x∈ H->x≠h->v x=0)->∀j,Fits (v j) K2):
 ∀{S:List Vec} {a:Vy} {lo l:Nat} {P:Vy},H=P++a->(∀p,p∈ P->p<lo)->Ech lo l S a->S.length<=n->(∀s,s∈ S->Span k R s)->(∀(t:Nat) (s:Vec) (h:Nat),S[t]?=some s->a[t]?=some h->∀i,Fits (s i / s h) K2)->
  clnFits K S a/\∀v,v∈ cln S a->∀i,Fits (v i) K2
 | [],[],lo,l,P,hH,hP,he,hn,hS,hf=>by
   unfold clnFits cln;exact⟨trivial,fun v d=>by cases d⟩
 |r :: S,h :: a,lo,l,P,hH,hP,he,hn,hS,hf=>by
  have m:=he;obtain⟨L,M,N,o⟩:=m;have B:S.length+1<=n:=by simpa using hn
  have q:=Qjn w A c (P:=P++ [h]) (by rw[hH];simp) (fun p f=>by
   rcases List.mem_append.1 f with f|f
   . have:=hP p f;omega
   . simp only[List.mem_singleton] at f;omega) o (by omega) (fun s a=>hS s (by simp[a])) (fun t s x e C=>hf (t+1) s x (by simpa using e) (by simpa using C))
  have D:=(Qd3 0 o).1;have g:=(Qd3 0 he).1;have y:∀i,Fits (r i / r h) K2:=hf 0 r h rfl rfl;have z:=Qd4 S a o.len;have O:(cln S a).length*(K2+K2+1)<=n*(K2+K2+1):=Nat.mul_le_mul_right _ (by omega);have E:=Qjm (K:=K) (j:=K2) w (J:=K2) (r:=fun i=>r i / r h) D q.2 y (fun x _=>y x) (by omega);refine⟨?_,fun v d=>?_⟩
  . unfold clnFits
    exact⟨q.1,E.1⟩
  .
   simp only[cln] at g d;obtain⟨Q,F,G,I,T⟩:=g;rcases List.mem_cons.1 d with d|d
   .
    subst d;refine c _ h (Qf4 _ _ _ ((hS r (by simp)).over _) (Qjk S a (fun s a=>hS s (by simp[a])))) (by rw[hH];simp) F (fun x b u=>?_);rw[hH] at b;rcases List.mem_append.1 b with b|b
    . exact G x (by have:=hP x b;omega)
    .
     rcases List.mem_cons.1 b with b|b
     . exact absurd b u
     . exact I x b
   . exact q.2 v d
 | [],_ :: _,_,_,_,_,_,he,_,_,_=>absurd he (by simp[Ech])
 |_ :: _,[],_,_,_,_,_,he,_,_,_=>absurd he (by simp[Ech])
def MJ(W N K2:Nat)(M:List Vec)(c:Nat)(L S:List Vec)(hs:Vy):Prop:=
 Elim W M c L S hs/\MI W N M c L S hs/\∀(t:Nat) (s:Vec) (h:Nat),S[t]?=some s->hs[t]?=some h->∀i,Fits (s i / s h) K2
theorem MJ.start(W N K2:Nat)(M:List Vec)(a:∀v,v∈ M->∀i,W<=i->v i=0)(b:M.length<=N∨W<=N):MJ W N K2 M 0 M [] []:=
 ⟨Elim.start W M,MI.start W N M a b,fun t s h e=>by simp at e⟩
theorem MJ.going{v W a K K2:Nat}{M:List Vec}{D:Nat->Nat}(o:0<a)(p:∀j,0<D j/\D j<=a)(q:∀r,r∈ M->∀j,∃z:Int,r j*(D j:Rat)=(z:Rat)/\z.natAbs<=a)
 (w:(W+1)*(a*(2*((W+1)*a)) ^ W)<2 ^ K) (k:0<K) (l:(W+1)*(a*(2*((W+1)*a)) ^ W)*a<2 ^ K2) (y:0<K2):Going K (MJ v W K2 M) where
 fit:=fun h=>MI.fit o p q w k h.2.1
 skip:=fun h b=>⟨h.1.skip b,h.2.1.skip,h.2.2⟩
 step:=fun {c j L S hs s} h g b=>by
  refine⟨h.1.step g b,h.2.1.step g b,fun t u x e d i=>?_⟩;have hl:=h.1.1.len;by_cases A:t<S.length
  .
   rw[List.getElem?_append_left A] at e;rw[List.getElem?_append_left (by omega)] at d;exact h.2.2 t u x e d i
  .
   have m:t=S.length:=by
    have:=(gZ e).1;simp at this;omega
   subst m;rw[List.getElem?_append_right (by omega)] at e;rw[List.getElem?_append_right (by omega)] at d;simp at e;rw[hl] at d;simp at d;subst e d;obtain⟨_,_,_,_,_,_,B,_⟩:=h.2.1;obtain⟨_,_,_,_,C⟩:=B s (mO g);obtain⟨_,hW,_,R,E,F,_,G⟩:=h.2.1.step g b;refine Qjl (H:=hs++ [c]) o p q l y rfl (by omega) E F ((G s (by simp)).over (s c)) (h:=c) (by simp) ?_ (fun x f n=>?_) i
   . rw[Rat.div_def,Rat.mul_inv_cancel _ b]
   .
    rcases List.mem_append.1 f with f|f
    .
     show s x / s c=0
     rw[C x f,Rat.div_def];grind
    . simp only[List.mem_singleton] at f
      exact absurd f n
theorem MJ.clean{m W a K K2:Nat}{M:List Vec}{D:Nat->Nat}(o:0<a)(q:∀j,0<D j/\D j<=a)(s:∀r,r∈ M->∀j,∃z:Int,r j*(D j:Rat)=(z:Rat)/\z.natAbs<=a)
 (d:(W+1)*(a*(2*((W+1)*a)) ^ W)*a<2 ^ K2) (g:0<K2) (t:K2+W*(K2+K2+1)<=K) {c:Nat} {L S:List Vec} {b:Vy} (h:MJ m W K2 M c L S b):clnFits K S b/\∀v,v∈ cln S b->∀i,Fits (v i) K2:=by
 obtain⟨l,⟨_,hW,_,R,u,w,_,y⟩,A⟩:=h;exact Qjn (H:=b) (R:=R) (k:=b.length) (n:=W) g t (fun v x B C e f j=>Qjl o q s d g rfl (by omega) u w B C e f j) (P:=[]) rfl (fun p E=>by cases E) l.1 (by rw[l.1.len];omega) y A
theorem Qvg(B W K:Nat)(S:List MR)(b:Vy)(sv hv:Value)(wd:Int)(w:Vz)(hr:Grow w B 98 1 IsSl sv S.length (S.map MR.val))(hh:Grow w B 3 1 IsI hv b.length (headsV b))(a8:Oks w W K S)(ah:S.length=b.length)(a9:∀h,h∈ b->h<W)(ai:clnFits K (S.map MR.q) b)(cu:S.length<=1000)(hW:W<=1000)(ba:0<K)(hK:4*K+1<68719476000):
 Calls prog 157 #[.agg #[.int .i64 wd,sv,hv]] w fun e w'=>e=.returned (.tuple #[])/\∃S':List MR,S'.length=S.length/\S'.map MR.q=cln (S.map MR.q) b/\CW w w' B W K S' b (.int .i64 wd) sv hv:=by
 obtain⟨a,J,rfl,_,_,aj⟩:=hr.slice;obtain⟨a2,D,rfl,_,_,_⟩:=hh.slice;obtain⟨HR,HH,HO,HL,bb,HF,HP⟩:=If hr hh a8 ah a9 ai aj;clear hr hh a8 ah a9 ai aj;go_enter func157,ntmps157;obtain⟨V,hV⟩:=nm (w.alloc (.cells #[.int .i64 wd,.slice a S.length J,.slice a2 b.length D] 195));have s:Bl w V:=by rw[<-hV];exact(Below.refl _ _).alloc lZ _
 have bw:O (CW w V B W K S b (.int .i64 wd) (.slice a S.length J) (.slice a2 b.length D)):=Hi ⟨by rw[<-hV];exact SB.new w _ _,HR.o.below s,HH.o.below s,HO.o.fr (Fr.of_below s),fun k hk _=>s.block k hk,s.os,s.tape,s.output,s.size⟩;have HV:=Hi hV;clear hV s;go_wp2_with fail;rw[HV.o];go_loopw [2] (fun i wr=>∃(k:Nat) (A:List MR),k<=S.length/\i=.int .i64 ((k:Int) - 1)/\A.length=S.length/\(∀p,p<k->A[p]?=S[p]?)/\(A.drop k).map MR.q=cln ((S.map MR.q).drop k) (b.drop k)/\CW w wr B W K A b (.int .i64 wd) (.slice a S.length J) (.slice a2 b.length D)) (fun i _=>(intOf i+1).toNat)
 case atStart=>
  refine⟨S.length,S,Nat.le_refl _,by go_num,rfl,fun _ _=>rfl,?_,bw.o⟩;rw[List.drop_of_length_le lZ,List.drop_of_length_le (by simp)];rfl
 case round=>
  obtain⟨k,A,hk,rfl,bc,ak,bd,hC⟩:=hrel;obtain⟨l,al,be,E⟩:=Ic hC ak bd bc;clear hC ak bd bc;by_cases h0:k=0
  .
   subst h0;go_wp2;go_end0;exact⟨rfl,A,E.o,by have:=be.o;simpa using this,l.o⟩
  .
   obtain⟨j,rfl⟩:∃j,k=j+1:=⟨k - 1,by omega⟩;have ej:((j+1:Nat):Int) - 1=(j:Int):=by omega
   rw[ej];clear ej h0;obtain⟨g,rfl,bx⟩:=HP.o (by omega);clear bx;obtain⟨r,hr⟩:∃r,S[j]?=some r:=⟨S[j]'(by omega),gE (by omega)⟩;obtain⟨h,hh⟩:∃h,b[j]?=some h:=⟨b[j]'(by have:=HL.o;omega),gE (by have:=HL.o;omega)⟩;have cv:h<W:=bb.o h (mO hh);have Z:A[j]?=some r:=by rw[al.o j (by omega)];exact hr
   obtain⟨bf,G⟩:=Qvf HL.o hr hh be.o HF.o;obtain⟨bz,bg⟩:=Ia bf G;have n:=l.o.ok r (mO Z);have C:=n.len;obtain⟨e,he⟩:∃e,r.ts[h]?=some e:=⟨r.ts[h]'(by omega),gE (by omega)⟩;obtain⟨rb,ro,aa,b3,d0,d1,d2⟩:=n.row.at he;obtain⟨hv,bh,b4⟩:=n.row.get he;have cw:=n.sz e (mO he);obtain⟨hb,ho,rfl,b5,c2⟩:=l.o.heads.crow.cell j (.int .i64 (h:Nat)) (by simp[headsV,hh]);have c1:wr.cell? ⟨g,j,none⟩=some (.slice r.a r.ts.length r.cap):=l.o.rows.cell (by rw[List.getElem?_map,Z];rfl);rw[aa,C] at c1;obtain⟨-,x1,x2,-⟩:=zc l.o.box;have q1:((j:Int)<(S.length:Int)):=by omega
   have q2:((j:Int)<(b.length:Int)):=by have:=HL.o;omega
   have q3:((h:Int)<(W:Int)):=by omega
   obtain⟨bi,cx,HE,b6,b7⟩:=Id n aa (MR.q_at he) hv bh;have au:=Hi (fun u (hu:Bl wr u)=>Qum r.a r.cap (2*K) e.k r.ts e.x e.y e.z e.q u (bi.o.row.below hu) (by omega) (b6.o.below hu) b7.o b4 (fun t ht=>by have:=bi.o.sz t ht;omega) (by omega));rw[C,aa] at au;have b8:=Hi Z;clear hr hh Z bf G n he aa hv bh;go_wp2_with fail;go_region_held3 (fun v=>v.cell? ⟨w.heap.size,1,none⟩=some (.slice (some ⟨g,0,none⟩) S.length J)/\v.cell? ⟨w.heap.size,2,none⟩=some (.slice (some ⟨hb,ho,none⟩) b.length D)/\v.cell? ⟨g,j,none⟩=some (.slice (some ⟨rb,ro,none⟩) W r.cap)/\v.cell? ⟨hb,ho+j,none⟩=some (.int .i64 h)/\v.cell? ⟨rb,ro+h*3,none⟩=some e.x/\v.cell? ⟨rb,ro+h*3+1,none⟩=some e.y/\v.cell? ⟨rb,ro+h*3+2,none⟩=some e.z) ((first|(simp [*];done)|go_keep)) (first
    |(
     go_at_call 207;apply cM;apply au.o;(focus(repeat(first|exact Below.refl _ _|apply Qck|apply Qcl)));rintro e5 w5 ⟨⟨g5,us,rfl,b9,av,N⟩,aw⟩;(first
       |have L:O (Bl wr w5):=Hi aw
       |have L:O (Bl wr w5):=Hi (bR.drew.trans aw))
     obtain⟨ab,ad⟩:=Ia av N;obtain⟨y1,y2⟩:=Ja L.o l.o.box.lt x1 x2;have y3:=(L.o.cell (p:=⟨g,j,none⟩) (l.o.rows.lt (g:=g) rfl).2).trans c1;have y4:=ce L.o b5 c2;obtain⟨y5,y6,y7⟩:=Jb L.o b3 d0 d1 d2;clear av N aw b9
     skip)
    |fail)
   clear x1 x2 c1 c2 d0 d1 d2 y1 y2 y3 y4 y5 y6 y7;have ca:=Hi (l.o.below L.o);obtain⟨r0,am,P,an⟩:=MOk.made (v:=fun i=>r.q i / r.q h) (K:=K) ab.o C (by rw[C];exact ad.o) ba (fun i hi=>by rw[HE.o]) (fun i hi=>by
    show r.q i / r.q h=0
    rw[MR.q_beyond (by omega)]
    exact Qvc _) (fun i _=>bg.o.here i)
   obtain⟨bj,ao,bk⟩:=Ib P an am;clear P an am ab ad au l;have Q:Value.slice (some ⟨g5,0,none⟩) W W=.slice r0.a W r0.cap:=by
    have:=bk.o;unfold MR.val at this;rw[bj.o.len] at this;exact this.symm
   rw[Q];clear Q;go_wp2_with fail;go_loopw [3,4] (fun rv i wq=>∃(m:Nat) (c:MR),j+1<=m/\m<=S.length/\i=.int .i64 m/\rv=.slice c.a W c.cap/\MOk wq W K c/\CW w wq B W K A b (.int .i64 wd) (.slice (some ⟨g,0,none⟩) S.length J) (.slice (some ⟨hb,ho,none⟩) b.length D)/\red c.q ((A.drop m).map MR.q) (b.drop m)=red (fun i=>r.q i / r.q h) ((A.drop (j+1)).map MR.q) (b.drop (j+1))/\redFits K c.q ((A.drop m).map MR.q) (b.drop m)) (fun _ i _=>S.length - (intOf i).toNat)
   case atStart=>exact⟨j+1,r0,Nat.le_refl _,hk,by go_num,rfl,bj.o,ca.o,by rw[ao.o],by rw[ao.o];exact bg.o⟩
   case round=>
    obtain⟨m,c,cy,hm,rfl,rfl,F,hC,ap,bl⟩:=hrel;obtain⟨l,ae,R,bm⟩:=Ic hC F ap bl;clear hC ap bl;by_cases cz:m<S.length
    .
     obtain⟨t,ht⟩:∃t,A[m]?=some t:=⟨A[m]'(by have:=E.o;omega),gE (by have:=E.o;omega)⟩;obtain⟨d,af⟩:∃d,b[m]?=some d:=⟨b[m]'(by have:=HL.o;omega),gE (by have:=HL.o;omega)⟩;have T:=l.o.ok t (mO ht);have c0:d<W:=bb.o d (mO af);have ax:=F.len;have cb:=T.len;obtain⟨f,hf⟩:∃f,c.ts[d]?=some f:=⟨c.ts[d]'(by omega),gE (by omega)⟩;obtain⟨qb,qo,ay,av,d0,d1,d2⟩:=F.row.at hf;obtain⟨az,aq,bn⟩:=F.row.get hf;have c3:=F.sz f (mO hf);obtain⟨o1,o2,o3⟩:=az.one;have s0:=Qaa prog o1;have s1:=Qaa prog o2;have s2:=Qaa prog o3;obtain⟨c4,c5,cc,ct,c2⟩:=l.o.heads.crow.cell m (.int .i64 (d:Nat)) (by simp[headsV,af]);cases cc
     have c1:wr.cell? ⟨g,m,none⟩=some (.slice t.a t.ts.length t.cap):=l.o.rows.cell (by rw[List.getElem?_map,ht];rfl);rw[cb] at c1;have bo:g<wr.heap.size:=(l.o.rows.lt (g:=g) rfl).2;have cd:=l.o.box.lt;obtain⟨-,x1,x2,-⟩:=zc l.o.box;have q4:((m:Int)<(S.length:Int)):=by omega
     have q5:((m:Int)<(b.length:Int)):=by have:=HL.o;omega
     have q6:((d:Int)<(W:Int)):=by omega
     obtain⟨HT,cf,bp,bq,br,a0,a1⟩:=If T ay (MR.q_at hf) az aq (Qc7 ht) (Qc7 af);have bs:=Hi (fun u (hu:Bl wr u)=>Qes c.a t.a c.cap t.cap (4*K+1) f.k c.ts t.ts f.x f.y f.z f.q u (ae.o.row.below hu) (HT.o.row.below hu) (by omega) (by omega) (bq.o.below hu) br.o bn (fun x hx y hy=>by have:=ae.o.sz x hx;have:=HT.o.sz y hy;omega) (by omega));rw[ax] at bs;obtain⟨cg,X1⟩:=Ia c1 x1;rw[ay];obtain⟨V2,ag⟩:=nm (wr.alloc (.cells #[f.x,f.y,f.z] 107));have a3:=Ua ag;have bt:=Uc ag;have ch:=Hi ag;clear ht af T hf ay az aq ag o1 o2 o3 F;go_wp2_with fail;rw[ch.o];go_fit (Qbt (bq.o.below a3.o))
     rintro e' w4 ⟨rfl,a4⟩;have M:=Hi (a3.o.trans (a4.mono a3.o.size));obtain⟨a5,ci,a6⟩:=Ib (l.o.below M.o) (ae.o.fr (Fr.of_below M.o)) (bt.o.below a4 bt.o.lt);clear a4 c1 c2 d0 d1 d2 s0 s1 s2 x1 x2;rw[<-cf.o];by_cases h0:f.q=0
     .
      rw[decide_eq_true h0];have HZ:O (c.q d=0):=Hi (bp.o.trans h0);clear h0;go_wp2;go_roundw
      case rel=>
       have h1:=R.o;have h2:=bm.o;rw[a0.o,a1.o,List.map_cons] at h1 h2;rw[Qve HZ.o] at h1;exact⟨m+1,c,by omega,by omega,by go_num,rfl,ci.o,a5.o,h1,h2.skip HZ.o⟩
      case measure=>simp[intOf];omega
     .
      rw[decide_eq_false h0];clear h0;obtain⟨-,y1,-⟩:=zc a5.o.box;have y2:=ce M.o bo cg.o;obtain⟨b0,b1,b2,-⟩:=zc a6.o;obtain⟨Y1,Y2⟩:=Ia y1 y2;have bu:g<w4.heap.size:=Nat.lt_of_lt_of_le bo M.o.size;have bv:w.heap.size<w4.heap.size:=Nat.lt_of_lt_of_le cd M.o.size;go_wp2_with fail;go_region_held3 (fun v=>v.cell? ⟨w.heap.size,1,none⟩=some (.slice (some ⟨g,0,none⟩) S.length J)/\v.cell? ⟨g,m,none⟩=some (.slice t.a W t.cap)/\v.cell? ⟨wr.heap.size,0,none⟩=some f.x/\v.cell? ⟨wr.heap.size,1,none⟩=some f.y/\v.cell? ⟨wr.heap.size,2,none⟩=some f.z) ((first|(simp [*];done)|go_keep)) (first
       |(
        go_at_call 169;apply cM;apply bs.o;(focus(repeat(first|exact M.o|apply Qck|apply Qcl)));rintro e6 w6 ⟨⟨g6,us,rfl,cj,ar,N⟩,a7⟩;(first
          |have U:O (Bl w4 w6):=Hi a7
          |have U:O (Bl w4 w6):=Hi (bR.drew.trans a7))
        obtain⟨ab,ad,ck⟩:=Ib ar N (a6.o.below U.o a6.o.lt);have z1:=ce U.o bv Y1.o;have z2:=ce U.o bu Y2.o;obtain⟨z3,z4,z5,-⟩:=zc ck.o;clear ar N a7 cj
        skip)
       |fail)
      all_goals
       clear y1 y2 b0 b1 b2 z1 z2 z3 z4 z5;have G:=bm.o;rw[a0.o,a1.o,List.map_cons] at G;obtain⟨r6,I,H,X⟩:=MOk.made (v:=fun i=>c.q i - t.q i*c.q d) (K:=K) ab.o ax (by rw[ax];exact ad.o) ba (fun i hi=>by
        show c.q i - qAt t.ts i*f.q=_
        rw[qAt_q,bp.o]) (fun i hi=>by
        show c.q i - t.q i*c.q d=0
        rw[MR.q_beyond (r:=c) (by omega),MR.q_beyond (r:=t) (by omega)]
        exact Qvd _) (fun i _=>G.next.here i)
       have Y:Value.slice (some ⟨g6,0,none⟩) W W=.slice r6.a W r6.cap:=by
        unfold MR.val at I;rw[H.len] at I;exact I.symm
       have cl:O (red r6.q ((A.drop (m+1)).map MR.q) (b.drop (m+1))=red (fun i=>r.q i / r.q h) ((A.drop (j+1)).map MR.q) (b.drop (j+1))):=Hi (by
        have h1:=R.o;rw[a0.o,a1.o,List.map_cons] at h1;rw[X]
        exact h1)
       have cm:O (redFits K r6.q ((A.drop (m+1)).map MR.q) (b.drop (m+1))):=Hi (by rw[X];exact G.next);obtain⟨cn,cp⟩:=Ia H Y;clear G I H X Y;go_wp2_with fail;refine⟨⟨m+1,r6,by omega,by omega,by go_num,cp.o,cn.o,a5.o.below U.o,cl.o,cm.o⟩,?_⟩;simp[intOf];omega
    .
     have cq:m=S.length:=by omega
     subst cq;have er:c.val=.slice c.a W c.cap:=by unfold MR.val;rw[F.len]
     have hq:c.q=red (fun i=>r.q i / r.q h) ((A.drop (j+1)).map MR.q) (b.drop (j+1)):=by
      have h1:=R.o;rw[List.drop_of_length_le (by rw[E.o];exact Nat.le_refl _)] at h1
      simpa [red] using h1
     obtain⟨cr,HQ⟩:=Ia er hq;obtain⟨-,x1,-⟩:=zc l.o.box;have f0:=l.o.rows.free j;have t0:wr.cell? ⟨g,j,none⟩=some r.val:=l.o.rows.cell (by rw[List.getElem?_map,b8.o];rfl);clear er hq F;go_wp2_with fail;refine⟨⟨j,A.set j c,by omega,by go_num,by rw[List.length_set];exact E.o,fun p hp=>?_,?_,?_⟩,?_⟩
     . rw[List.getElem?_set_ne (by omega)]
       exact al.o p (by omega)
     .
      have cs:j<A.length:=by have:=E.o;omega
      rw[Qc7 (List.getElem?_set_self cs),List.drop_set,if_pos (by omega),List.map_cons,HQ.o];exact bz.o.symm
     . rw[<-cr.o]
       exact l.o.set E.o.symm (by have:=E.o;omega) ae.o
     . simp[intOf]
theorem Qls(a:Vx)(z K:Nat)(ts:List FE)(w:Vz)(j:Glob w)(h:QRow w a z ts)(hk:∀t,t∈ ts->t.k<=K)(hK:K<=274877906944)(hl:ts.length<=1000):
 Calls prog 58 #[.slice a ts.length z] w fun e X=>(∃(g:Nat) (b:Vt),e=.returned (.slice (some ⟨g,0,none⟩) ts.length ts.length)/\(b.length=ts.length/\w.heap.size<=g)/\SB X g 32 (textsV b).toArray/\∀(i:Nat) (t:FE) (s:Vs),ts[i]?=some t->b[i]?=some s->QText s.data.toList t.q)/\Below w.heap.size w X:=by
 obtain⟨Y,G,HK⟩:=Ib h j hk;have A:=fun w=>Qwf ts.length (by omega) w
 obtain⟨MC,n⟩:=nm ((textsV (List.replicate ts.length ⟨#[]⟩)).toArray);rw[n] at A;have H:=Hi n;clear h j hk n;go_enter func58,ntmps58;go_wp2_with fail;clear A;obtain⟨g,j⟩:=nm w.heap.size;obtain⟨V,hV⟩:=nm (w.alloc (.cells MC 32));have I:O (Below g w V):=Hi (by rw[<-hV,<-j];exact(Below.refl _ _).alloc lZ _);have J:O (SB V g 32 (textsV (List.replicate ts.length ⟨#[]⟩)).toArray):=Hi (by rw[<-hV,<-j,H.o];exact SB.new w _ _)
 try rw[hV]
 try rw[j]
 clear hV;go_loopw [10] (fun i wr=>∃(k:Nat) (b:Vt),k<=ts.length/\i=.int .i64 k/\b.length=ts.length/\SB wr g 32 (textsV b).toArray/\(∀(i:Nat) (t:FE) (s:Vs),i<k->ts[i]?=some t->b[i]?=some s->QText s.data.toList t.q)/\Below g w wr) (fun i _=>ts.length - (intOf i).toNat)
 case atStart=>exact⟨0,_,by omega,rfl,by simp,J.o,fun i t s hi=>by omega,I.o⟩
 case round=>
  obtain⟨k,b,hk,rfl,B,r,l,Z⟩:=hrel;obtain⟨L,u,HA⟩:=Ib Z r l;have M:=r.lt;have c:=Hi B;clear Z r l B;by_cases N:k<ts.length
  .
   obtain⟨t,m⟩:∃t,ts[k]?=some t:=⟨ts[k],gE N⟩;have f:Below w.heap.size w wr:=by rw[j];exact L.o
   obtain⟨fb,aa,rfl,ab,d0,d1,d2⟩:=(Y.o.below f).at m;obtain⟨C,P,Q⟩:=Ib ((Y.o.below f).get m) (HK.o t (mO m)) (G.o.below f);have q1:((k:Int)<(ts.length:Int)):=by omega
   have HT:=Hi m;obtain⟨R,D⟩:∃R,b[k]?=some R:=⟨b[k]'(by have:=c.o;omega),gE (by have:=c.o;omega)⟩;have S:=Hi D;clear m f D;go_wp2_with fail;go_fit (Qdr (Q.o.tab (by unfold hasTen;kernel_rfl)) C.o.1 (C.o.2.1.mono P.o) hK);rintro e w2 ⟨⟨s,rfl,E⟩,v⟩;obtain⟨T,U,d⟩:=Ib E v (u.o.below v u.o.lt);have f0:=d.o.free k;have t0:w2.cell? ⟨g,k,none⟩=some (.string R):=by
    rw[d.o.cell];simp[textsV,S.o]
   clear E v d0 d1 d2;go_wp2;go_roundw
   case rel=>
    refine⟨k+1,b.set k s,by omega,by go_num,by rw[List.length_set];exact c.o,?_,fun i x y hi hx F=>?_,(L.o.trans (U.o.mono (Nat.le_of_lt M))).setCell (p:=⟨g,k,none⟩) lZ _⟩
    .
     have:=d.o.set k (.string s);rw[Qwg]
     simpa using this
    .
     rcases Nat.lt_or_ge i k with h1|h1
     . rw[List.getElem?_set_ne (by omega)] at F
       exact HA.o i x y h1 hx F
     .
      obtain rfl:i=k:=by omega
      rw[List.getElem?_set_self (by have:=c.o;omega)] at F;obtain rfl:=Option.some.inj F;obtain rfl:=Option.some.inj (HT.o.symm.trans hx);exact T.o
   case measure=>simp[intOf];omega
  .
   have W:k=ts.length:=by omega
   subst W;go_wp2;go_ret;rw[j];exact⟨⟨g,b,rfl,⟨c.o,Nat.le_of_eq rfl⟩,u.o,fun i t s m hs=>HA.o i t s (gZ m).1 m hs⟩,L.o⟩
theorem QRow.take{w:Vz}{a:Vx}{b:Nat}{ts:List FE}(h:QRow w a b ts)(n:Nat):QRow w a b (ts.take n):=by
 refine⟨⟨?_,⟨fun j u c=>h.row.row.cell j u ?_⟩⟩,fun t d=>h.ts t (List.mem_of_mem_take d)⟩
 .
  have:=h.row.fit;rw[List.length_take];omega
 .
  have e:ts.flatMap FE.cells=(ts.take n).flatMap FE.cells++(ts.drop n).flatMap FE.cells:=by rw[<-List.flatMap_append,List.take_append_drop]
  rw[e,List.getElem?_append_left (gZ c).1];exact c
end Go.Proofs.YtkkadnoecklepaaGreatDoor
