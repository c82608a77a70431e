import Derived.Test.YtppkmifkpjkgpaaGreatDoorC38LodB
namespace Go.Proofs.YtppkmifkpjkgpaaGreatDoor
open Go.RowKit
open Go.Proofs.Tryz
set_option linter.unusedSimpArgs false
set_option linter.unusedVariables false
set_option maxHeartbeats 8000000
set_option maxRecDepth 1000000
structure PR where
 b:Nat
 cap:Nat
 ts:List RT
 sp:List Value
def PR.val(r:PR):Value:=.slice (some ⟨r.b,0,none⟩) r.ts.length r.cap
def PR.cells(r:PR):List Value:=r.ts.map ptrV++r.sp
def PR.put(r:PR)(j:Nat)(t:RT):PR:=⟨r.b,r.cap,r.ts.set j t,r.sp⟩
def ratV(ts:List RT):Vec:=fun i=>match ts[i]? with
 |some t=>t.2.1
 |none=>0
def PR.q(r:PR):Vec:=ratV r.ts
theorem Qd9{ts:List RT}{i:Nat}{t:RT}(h:ts[i]?=some t):ratV ts i=t.2.1:=by simp only[ratV,h]
theorem Qj2{ts:List RT}{i:Nat}(h:ts.length<=i):ratV ts i=0:=by simp only[ratV,List.getElem?_eq_none h]
theorem PR.put_val(r:PR)(j:Nat)(t:RT):(r.put j t).val=r.val:=by simp[PR.put,PR.val]
theorem IsSl.of_val(r:PR):IsSl r.val:=⟨_,_,_,rfl⟩
theorem Qea:84≠103:=by decide
theorem Qj3:3≠103:=by decide
theorem Qj4:3≠84:=by decide
structure Fs (w w':Vz):Prop where
 size:w.heap.size<=w'.heap.size
 keep:∀b i u,w.cell? ⟨b,i,none⟩=some u->¬IsSl u->w'.heap[b]?=w.heap[b]?
theorem Fs.cell{w w':Vz}(h:Fs w w'){b i:Nat}{u:Value}(a:w.cell? ⟨b,i,none⟩=some u)(hk:¬IsSl u)(j:Nat):w'.cell? ⟨b,j,none⟩=w.cell? ⟨b,j,none⟩:=World.cell?_of_block (w:=w) (h.keep b i u a hk)
theorem Fs.of_only{w w':Vz}{g:Nat}{t:Vr}{C:Vw}(c:Only g w w')(d:SB w g t C)(hC:∀u,u∈ C.toList->IsSl u):Fs w w':=by
 refine⟨c.size,fun b i u a hk=>c.block b (World.block_lt_of_cell? _ _ a) ?_⟩;rintro rfl;rw[d.cell] at a;exact hk (hC u (mO (by rw[Array.getElem?_toList];exact a)))
theorem Qro(x:Bool):¬IsSl (.bool x):=fun ⟨_,_,_,e⟩=>by cases e
theorem Qeb(k:IntKind)(n:Int):¬IsSl (.int k n):=fun ⟨_,_,_,e⟩=>by cases e
theorem Row.fs{k:IntKind}{w w':Vz}{a:Vx}{cap:Nat}{l:Vy}(h:Row k w a cap l)(c:Fs w w'):Row k w' a cap l:=by
 refine⟨h.fit,?_,fun i g=>?_⟩
 .
  rcases h.shape with d|⟨e,b,rfl,j⟩
  . exact .inl d
  . exact .inr ⟨e,b,rfl,by have:=c.size;omega⟩
 . obtain⟨e,b,d,j,f⟩:=h.cell i g
   exact⟨e,b,d,by have:=c.size;omega,(c.cell f (Qeb _ _) _).trans f⟩
theorem RatVal.fs{w w':Vz}{b:Nat}{q:Rat}(h:RatVal w b q)(c:Fs w w'):RatVal w' b q:=by
 obtain⟨D,f,c1,g,i,c2,j,a,k⟩:=h;refine⟨D,f,c1,g,i,c2,j,⟨?_,⟨a.num.row.fs c,a.num.num,a.num.short⟩,⟨a.den.row.fs c,a.den.num,a.den.short⟩⟩,k⟩;have d:=a.sb;have e:=c.keep b 0 _ (by rw[d.cell];rfl) (Qro _);unfold SB at d ⊢;rw[e];exact d
structure PMat (w:Vz) (B g:Nat) (zs:Vv) (rs:List PR):Prop where
 blk:SB w g 103 (rs.map PR.val++zs).toArray
 room:∀u,u∈ zs->IsSl u
 low:B<=g
 row:∀r,r∈ rs->SB w r.b 84 r.cells.toArray/\B<=r.b/\(∀u,u∈ r.sp->IsPt u)/\r.ts.length<=r.cap
 vs:∀r,r∈ rs->RVs w r.ts
 apart:∀(i j:Nat) (a b:PR),i≠j->rs[i]?=some a->rs[j]?=some b->a.b≠b.b
theorem PMat.below{w w':Vz}{B g:Nat}{c:Vv}{rs:List PR}(h:PMat w B g c rs)(b:Below w.heap.size w w'):PMat w' B g c rs:=
 ⟨h.blk.below b h.blk.lt,h.room,h.low,fun r a=>⟨(h.row r a).1.below b (h.row r a).1.lt,(h.row r a).2⟩,fun r a=>(h.vs r a).below b,h.apart⟩
theorem PMat.slot{w:Vz}{B g i:Nat}{b:Vv}{rs:List PR}{r:PR}(h:PMat w B g b rs)(a:rs[i]?=some r):w.cell? ⟨g,i,none⟩=some r.val:=by
 rw[h.blk.cell,List.getElem?_toArray,List.getElem?_append_left (by simpa using (gZ a).1)];simp[a]
theorem PMat.num{w:Vz}{B g i j:Nat}{c:Vv}{rs:List PR}{r:PR}{t:RT}(h:PMat w B g c rs)(d:rs[i]?=some r)(a:r.ts[j]?=some t):w.cell? ⟨r.b,j,none⟩=some (.pointer (some ⟨t.1,0,none⟩)):=by
 rw[(h.row r (mO d)).1.cell];have hl:=(gZ a).1;simp only[PR.cells,List.getElem?_toArray];rw[List.getElem?_append_left (by simpa using hl)];simp[a,ptrV]
theorem PMat.free{w:Vz}{B g i j:Nat}{a:Vv}{rs:List PR}{r:PR}(h:PMat w B g a rs)(c:rs[i]?=some r):w.frozen? ⟨r.b,j,none⟩=false:=(h.row r (mO c)).1.free j
theorem PMat.val{w:Vz}{B g i j:Nat}{a:Vv}{rs:List PR}{r:PR}{t:RT}(h:PMat w B g a rs)(b:rs[i]?=some r)(c:r.ts[j]?=some t):RatVal w t.1 t.2.1/\Fits t.2.1 t.2.2/\0<t.2.2:=h.vs r (mO b) t (mO c)
theorem PMat.swap{w:Vz}{B g k b:Nat}{E:Vv}{rs:List PR}{s t:PR}(h:PMat w B g E rs)(p:rs[b]?=some s)(hk:rs[k]?=some t):
 PMat ((w.setCell ⟨g,k,none⟩ s.val).setCell ⟨g,b,none⟩ t.val) B g E ((rs.set k s).set b t)/\Only g w ((w.setCell ⟨g,k,none⟩ s.val).setCell ⟨g,b,none⟩ t.val):=by
 have q:Only g w ((w.setCell ⟨g,k,none⟩ s.val).setCell ⟨g,b,none⟩ t.val):=((Only.refl g w).setCell _ _).setCell _ _;have f:=(gZ p).1;have l:=(gZ hk).1;have c:∀r,r∈ (rs.set k s).set b t->r∈ rs:=fun r a=>by
  rcases List.mem_or_eq_of_mem_set a with a|rfl
  .
   rcases List.mem_or_eq_of_mem_set a with a|rfl
   . exact a
   . exact mO p
  . exact mO hk
 have v:Fs w ((w.setCell ⟨g,k,none⟩ s.val).setCell ⟨g,b,none⟩ t.val):=Fs.of_only q h.blk (fun x d=>by
  simp only[List.toList_toArray,List.mem_append,List.mem_map] at d;rcases d with ⟨y,_,rfl⟩|d
  . exact IsSl.of_val y
  . exact h.room x d)
 have z:∀r,r∈ rs->r.b≠g:=fun r a=>(h.row r a).1.unlike h.blk Qea
 have A:∀r,r∈ rs->RVs ((w.setCell ⟨g,k,none⟩ s.val).setCell ⟨g,b,none⟩ t.val) r.ts:=fun r a u F=>by
  obtain⟨G,H⟩:=h.vs r a u F;exact⟨G.fs v,H⟩
 refine⟨⟨?_,h.room,h.low,fun r a=>⟨(h.row r (c r a)).1.only q (z r (c r a)),(h.row r (c r a)).2⟩,fun r a=>A r (c r a),?_⟩,q⟩
 .
  have:=(h.blk.set k s.val).set b t.val;rw[List.setIfInBounds_toArray,List.setIfInBounds_toArray,List.set_append_left _ _ (by simpa using l),List.set_append_left _ _ (by simpa using f)] at this;rw[List.map_set,List.map_set];exact this
 .
  intro i j x y I d J;have m:∀(i:Nat) (x:PR),((rs.set k s).set b t)[i]?=some x->∃e,rs[e]?=some x/\(i=b/\e=k∨i≠b/\i=k/\e=b∨i≠b/\i≠k/\e=i):=fun i x d=>by
   by_cases n:i=b
   .
    rw[n,List.getElem?_set_self (by rw[List.length_set];exact f)] at d;obtain rfl:=Option.some.inj d;exact⟨k,hk,.inl ⟨n,rfl⟩⟩
   .
    rw[List.getElem?_set_ne (Ne.symm n)] at d;by_cases o:i=k
    .
     rw[o,List.getElem?_set_self l] at d;obtain rfl:=Option.some.inj d;exact⟨b,p,.inr (.inl ⟨n,o,rfl⟩)⟩
    . rw[List.getElem?_set_ne (Ne.symm o)] at d
      exact⟨i,d,.inr (.inr ⟨n,o,rfl⟩)⟩
  obtain⟨e,C,L⟩:=m i x d;obtain⟨K,D,M⟩:=m j y J;exact h.apart e K x y (by omega) C D
theorem PMat.put{w:Vz}{B g i j nb K:Nat}{q:Rat}{D:Vv}{rs:List PR}{r:PR}(h:PMat w B g D rs)(k:rs[i]?=some r)(E:j<r.ts.length)(F:RatVal w nb q)(G:Fits q K)(H:0<K):
 PMat (w.setCell ⟨r.b,j,none⟩ (.pointer (some ⟨nb,0,none⟩))) B g D (rs.set i (r.put j (nb,q,K)))/\Only r.b w (w.setCell ⟨r.b,j,none⟩ (.pointer (some ⟨nb,0,none⟩))):=by
 have t:Only r.b w (w.setCell ⟨r.b,j,none⟩ (.pointer (some ⟨nb,0,none⟩))):=(Only.refl r.b w).setCell _ _;have f:=h.row r (mO k);have d:=(gZ k).1;have z:Fp w (w.setCell ⟨r.b,j,none⟩ (.pointer (some ⟨nb,0,none⟩))):=Fp.of_only t f.1 (fun u c=>by
  simp only[PR.cells,List.toList_toArray,List.mem_append] at c;rcases c with c|c
  . exact Qcj r.ts u c
  . exact f.2.2.1 u c)
 have A:∀(m:Nat) (s:PR),m≠i->rs[m]?=some s->s.b≠r.b:=fun m s a o=>h.apart m i s r a o k
 refine⟨⟨?_,h.room,h.low,fun s o=>?_,fun s o=>?_,?_⟩,t⟩
 .
  rw[List.map_set,PR.put_val];have e:(rs.map PR.val).set i r.val=rs.map PR.val:=by
   apply List.ext_getElem?;intro m;by_cases e:m=i
   .
    subst e;rw[List.getElem?_set_self (by simpa using d)];simp[k]
   . rw[List.getElem?_set_ne (Ne.symm e)]
  rw[e];exact h.blk.only t (fun e=>(f.1.unlike h.blk Qea) e.symm)
 .
  obtain⟨m,a⟩:=List.mem_iff_getElem?.1 o;by_cases e:m=i
  .
   subst e;rw[List.getElem?_set_self d] at a;obtain rfl:=Option.some.inj a;refine⟨?_,f.2.1,f.2.2.1,by simpa [PR.put] using f.2.2.2⟩;have:=f.1.set j (.pointer (some ⟨nb,0,none⟩));have e:(r.put j (nb,q,K)).cells.toArray=r.cells.toArray.setIfInBounds j (.pointer (some ⟨nb,0,none⟩)):=by
    simp only[PR.put,PR.cells,List.setIfInBounds_toArray,List.map_set];rw[List.set_append_left _ _ (by simpa using E)];rfl
   rw[e];exact this
  . rw[List.getElem?_set_ne (Ne.symm e)] at a
    exact⟨(h.row s (mO a)).1.only t (A m s e a),(h.row s (mO a)).2⟩
 .
  obtain⟨m,a⟩:=List.mem_iff_getElem?.1 o;by_cases e:m=i
  .
   subst e;rw[List.getElem?_set_self d] at a;obtain rfl:=Option.some.inj a;intro u c;rcases List.mem_or_eq_of_mem_set c with c|rfl
   . exact((h.vs r (mO k)).fp z) u c
   . exact⟨F.fp z,G,H⟩
  . rw[List.getElem?_set_ne (Ne.symm e)] at a
    exact(h.vs s (mO a)).fp z
 .
  intro m n x y C l I;have p:∀(m:Nat) (x:PR),(rs.set i (r.put j (nb,q,K)))[m]?=some x->∃v,rs[m]?=some v/\v.b=x.b:=fun m x l=>by
   by_cases e:m=i
   .
    rw[e,List.getElem?_set_self d] at l;obtain rfl:=Option.some.inj l;exact⟨r,by rw[e];exact k,rfl⟩
   . rw[List.getElem?_set_ne (Ne.symm e)] at l
     exact⟨x,l,rfl⟩
  obtain⟨v,J,L⟩:=p m x l;obtain⟨M,N,O⟩:=p n y I;rw[<-L,<-O];exact h.apart m n v M C J N
theorem RatVal.grownI{w w':Vz}{b B n:Nat}{q:Rat}{v:Value}{xs:Vv}(h:RatVal w b q)(d:Grow w B 3 1 IsI v n xs)(a:w.grownBy w' v.ownBlock):RatVal w' b q:=by
 rcases ho:v.ownBlock with _|g
 . rw[ho] at a
   exact h.below ⟨a.os,a.tape,a.output,a.size,fun k hk=>a.block k hk (by simp)⟩
 .
  obtain⟨C,f,j⟩:=d.sb ho;rw[ho] at a;refine h.only32 ⟨a.os,a.tape,a.output,a.size,fun k hk c=>a.block k hk (by simpa using c)⟩ f (by decide) (fun i m e=>?_);obtain⟨x,l⟩:=j _ (mO (by rw[Array.getElem?_toList];exact e));cases l
structure PQ (w wr:Vz) (B g W K:Nat) (zs:Vv) (rs:List PR) (hs:Vy) (tv:Value):Prop where
 mat:PMat wr B g zs rs
 wide:∀r,r∈ rs->r.ts.length=W
 tag:∀r,r∈ rs->∀t,t∈ r.ts->t.2.2=K
 told:Grow wr w.heap.size 3 1 IsI tv hs.length (headsV hs)
 base:Below B w wr
 low:B<=w.heap.size
section
variable {w wr:Vz} {B g W K:Nat} {zs:Vv} {rs:List PR} {hs:Vy} {tv:Value}
theorem PQ.below{w':Vz}(h:PQ w wr B g W K zs rs hs tv)(a:Below wr.heap.size wr w'):PQ w w' B g W K zs rs hs tv:=
 ⟨h.mat.below a,h.wide,h.tag,h.told.below a,h.base.trans (a.mono (Nat.le_trans h.low h.base.size)),h.low⟩
theorem PQ.told_only{w':Vz}{c:Nat}{t:Vr}{C:Vw}(h:PQ w wr B g W K zs rs hs tv)(b:Only c wr w')(a:SB wr c t C)(d:3≠t):Grow w' w.heap.size 3 1 IsI tv hs.length (headsV hs):=
 h.told.keep fun k hk=>b.block k (h.told.lt hk).2 (by
  obtain⟨D,d1,_⟩:=h.told.sb hk
  exact d1.unlike a d)
theorem PQ.at(h:PQ w wr B g W K zs rs hs tv){i:Nat}(d:i<rs.length):∃r:PR,rs[i]?=some r/\wr.cell? ⟨g,i,none⟩=some (.slice (some ⟨r.b,0,none⟩) W r.cap)/\W<=r.cap/\r.b<wr.heap.size:=by
 obtain⟨r,c⟩:∃r,rs[i]?=some r:=⟨_,gE d⟩;have a:=mO c;refine⟨r,c,?_,?_,(h.mat.row r a).1.lt⟩
 . rw[h.mat.slot c,PR.val,h.wide r a]
 . rw[<-h.wide r a]
   exact(h.mat.row r a).2.2.2
theorem PQ.num(h:PQ w wr B g W K zs rs hs tv){i j:Nat}{r:PR}(c:rs[i]?=some r)(l:j<W):∃b:Nat,wr.cell? ⟨r.b,j,none⟩=some (.pointer (some ⟨b,0,none⟩))/\RatVal wr b (r.q j)/\Fits (r.q j) K/\0<K:=by
 have d:=mO c;obtain⟨t,a⟩:∃t,r.ts[j]?=some t:=⟨_,gE (by rw[h.wide r d];exact l)⟩;obtain⟨m,f,k⟩:=h.mat.val c a;have e:=h.tag r d t (mO a);rw[e] at f k;refine⟨t.1,h.mat.num c a,?_⟩;rw[show r.q j=t.2.1 from Qd9 a];exact⟨m,f,k⟩
theorem PQ.swap(h:PQ w wr B g W K zs rs hs tv){k b:Nat}{s t:PR}(d:rs[b]?=some s)(hk:rs[k]?=some t):PQ w ((wr.setCell ⟨g,k,none⟩ (.slice (some ⟨s.b,0,none⟩) W s.cap)).setCell ⟨g,b,none⟩ (.slice (some ⟨t.b,0,none⟩) W t.cap)) B g W K zs ((rs.set k s).set b t) hs tv:=by
 have f:Value.slice (some ⟨s.b,0,none⟩) W s.cap=s.val:=by rw[PR.val,h.wide s (mO d)]
 have i:Value.slice (some ⟨t.b,0,none⟩) W t.cap=t.val:=by rw[PR.val,h.wide t (mO hk)]
 rw[f,i];obtain⟨j,e⟩:=h.mat.swap d hk;have c:∀r,r∈ (rs.set k s).set b t->r∈ rs:=fun r a=>by
  rcases List.mem_or_eq_of_mem_set a with a|rfl
  .
   rcases List.mem_or_eq_of_mem_set a with a|rfl
   . exact a
   . exact mO d
  . exact mO hk
 exact⟨j,fun r a=>h.wide r (c r a),fun r a=>h.tag r (c r a),h.told_only e h.mat.blk Qj3,h.base.trans (e.below h.mat.low (Nat.le_trans h.low h.base.size)),h.low⟩
theorem PQ.put(h:PQ w wr B g W K zs rs hs tv){i j nb:Nat}{r:PR}{q:Rat}(e:rs[i]?=some r)(k:j<W)(l:RatVal wr nb q)(m:Fits q K)(n:0<K):PQ w (wr.setCell ⟨r.b,j,none⟩ (.pointer (some ⟨nb,0,none⟩))) B g W K zs (rs.set i (r.put j (nb,q,K))) hs tv:=by
 have c:=mO e;have o:=(gZ e).1;obtain⟨p,f⟩:=h.mat.put e (by rw[h.wide r c];exact k) l m n;refine⟨p,fun x a=>?_,fun x a t d=>?_,h.told_only f (h.mat.row r c).1 Qj4,h.base.trans (f.below (h.mat.row r c).2.1 (Nat.le_trans h.low h.base.size)),h.low⟩
 .
  rcases List.mem_or_eq_of_mem_set a with a|rfl
  . exact h.wide x a
  . simpa [PR.put] using h.wide r c
 .
  rcases List.mem_or_eq_of_mem_set a with a|rfl
  . exact h.tag x a t d
  .
   rcases List.mem_or_eq_of_mem_set d with d|rfl
   . exact h.tag r c t d
   . rfl
theorem PQ.val_put(h:PQ w wr B g W K zs rs hs tv){i j nb b:Nat}{r:PR}{q:Rat}(d:rs[i]?=some r)(e:RatVal wr b q):RatVal (wr.setCell ⟨r.b,j,none⟩ (.pointer (some ⟨nb,0,none⟩))) b q:=by
 have c:=h.mat.row r (mO d);exact e.fp (Fp.of_only ((Only.refl r.b wr).setCell _ _) c.1 (fun u a=>by
  simp only[PR.cells,List.toList_toArray,List.mem_append] at a;rcases a with a|a
  . exact Qcj r.ts u a
  . exact c.2.2.1 u a))
theorem PQ.app(h:PQ w wr B g W K zs rs hs tv){k nb c:Nat}(p:wr.cell? ⟨nb,0,none⟩=some (.int .i64 (k:Nat)))(G:hs.length<=1000)(ty:Vr):
 ∃f w',appR prog 99 ty tv (.slice (some ⟨nb,0,none⟩) 1 c) wr=.ok f w'/\PQ w w' B g W K zs rs (hs++ [k]) f:=by
 obtain⟨H,A,q,s,hz2⟩:=info_parts Qk8;obtain⟨f,w',l,u,a,E⟩:=h.told.app (P:=prog) (ty:=ty) underlying99 A q s hz2 rfl (by decide) Qk7 ⟨nb,0,none⟩ 1 c [.int .i64 (k:Nat)] rfl (fun j v x=>by
  match j,x with
  |0,x=>
   obtain rfl:Value.int .i64 (k:Nat)=v:=by simpa using x
   rw[Qaq]
   exact p) (fun v y=>by obtain rfl:v=Value.int .i64 (k:Nat):=by simpa using y
                         rfl) (fun v y=>by obtain rfl:v=Value.int .i64 (k:Nat):=by simpa using y
                                           exact⟨_,rfl⟩) (by omega) (by decide) h.base.size
 have d:∀b,b<wr.heap.size->tv.ownBlock≠some b->w'.heap[b]?=wr.heap[b]?:=fun b i z=>a.block b i (fun e=>z e.symm)
 have m:∀{b:Nat} {t:Vr} {C:Vw},SB wr b t C->3≠t->SB w' b t C:=fun {b t C} i o=>by
  have F:=d b i.lt (fun p=>by
   obtain⟨D,d1,_⟩:=h.told.sb p
   exact d1.unlike i o rfl)
  unfold SB at i ⊢;rw[F];exact i
 have n:Below B wr w':=⟨a.os,a.tape,a.output,a.size,fun b i=>d b (Nat.lt_of_lt_of_le i (Nat.le_trans h.low h.base.size)) (fun e=>by have:=(h.told.lt e).1;have:=h.low;omega)⟩;refine⟨f,w',l,⟨⟨m h.mat.blk Qj3,h.mat.room,h.mat.low,fun r l=>⟨m (h.mat.row r l).1 Qj4,(h.mat.row r l).2⟩,fun r l t o=>⟨?_,(h.mat.vs r l t o).2⟩,h.mat.apart⟩,h.wide,h.tag,?_,h.base.trans n,h.low⟩⟩
 . exact(h.mat.vs r l t o).1.grownI h.told a
 . rw[List.length_append,headsV,List.map_append]
   exact u
theorem PQ.glob(h:PQ w wr B g W K zs rs hs tv)(a:∃m,w.cell? ⟨4,0,none⟩=some (.int .i64 m))(hG:4<B):RBag wr wr []:=by
 obtain⟨m,b⟩:=a;exact RBag.start ⟨m,ce h.base hG b⟩
end
structure Part (rs0 rs:List PR) (i j:Nat) (v u:Vec):Prop where
 len:rs.length=rs0.length
 other:∀m,m≠i->rs[m]?=rs0[m]?
 row:∃r,rs[i]?=some r/\(∀d,d<j->r.q d=u d)/\∀d,j<=d->r.q d=v d
theorem Part.start{rs:List PR}{i:Nat}{r:PR}(u:Vec)(h:rs[i]?=some r):Part rs rs i 0 r.q u:=⟨rfl,fun _ _=>rfl,r,h,fun d a=>by omega,fun _ _=>rfl⟩
theorem PR.put_q{r:PR}{j nb K:Nat}{q:Rat}(a:j<r.ts.length)(d:Nat):(r.put j (nb,q,K)).q d=if d=j then q else r.q d:=by
 unfold PR.q PR.put ratV;by_cases e:d=j
 . subst e
   simp[a]
 . simp only[List.getElem?_set_ne (Ne.symm e),if_neg e]
theorem Part.step{a rs:List PR}{i j nb K:Nat}{v u:Vec}{r:PR}(h:Part a rs i j v u)(f:rs[i]?=some r)(k:j<r.ts.length):Part a (rs.set i (r.put j (nb,u j,K))) i (j+1) v u:=by
 have b:=(gZ f).1;obtain⟨q,c,n,o⟩:=h.row;obtain rfl:=Option.some.inj (f.symm.trans c);refine⟨by simpa using h.len,fun m l=>by rw[List.getElem?_set_ne (Ne.symm l)];exact h.other m l,_,List.getElem?_set_self b,fun d p=>?_,fun d p=>?_⟩
 .
  rw[PR.put_q k];by_cases e:d=j
  . rw[if_pos e,e]
  . rw[if_neg e]
    exact n d (by omega)
 . rw[PR.put_q k,if_neg (by omega)]
   exact o d (by omega)
theorem Part.done{a rs:List PR}{i W:Nat}{v u:Vec}(h:Part a rs i W v u)(b:∀d,W<=d->v d=u d):∃r,rs[i]?=some r/\r.q=u:=by
 obtain⟨r,c,e,f⟩:=h.row;refine⟨r,c,funext fun d=>?_⟩;rcases Nat.lt_or_ge d W with k|k
 . exact e d k
 . rw[f d k,b d k]
end Go.Proofs.YtppkmifkpjkgpaaGreatDoor
