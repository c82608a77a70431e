/- package rows: rows of one width, no number longer than K bits; what less and over make of them. -/
import Derived.Test.YtbbkamnfjejceaaGreatDoorR35RowsG
namespace Go.Proofs.YtbbkamnfjejceaaGreatDoor
set_option linter.unusedVariables false
set_option linter.unusedSimpArgs false
abbrev Vec:=Nat→Rat
def dot:Nat→Vec→Vec→Rat
 |0,_,_=>0
 |n+1,r,x=>dot n r x+r n*x n
theorem Qat:∀(W:Nat) (r x s y:Vec),(∀c,c<W→r c*x c=s c*y c)→dot W r x=dot W s y
 |0,_,_,_,_,_=>rfl
 |n+1,r,x,s,y,h=>by
  simp only[dot];rw[Qat n r x s y (fun c hc=>h c (by omega)),h n (by omega)]
theorem Qb2:∀(W:Nat) (r x:Vec),(∀c,c<W→r c*x c=0)→dot W r x=0
 |0,_,_,_=>rfl
 |n+1,r,x,h=>by
  simp only[dot];rw[Qb2 n r x (fun c hc=>h c (by omega)),h n (by omega)];grind
theorem Qbj:∀(W:Nat) (r s x:Vec) (q:Rat),dot W (fun i=>r i - s i*q) x=dot W r x - q*dot W s x
 |0,_,_,_,_=>by simp only[dot];grind
 |n+1,r,s,x,q=>by
  simp only[dot];rw[Qbj n r s x q];grind
theorem Qde:∀(W:Nat) (r x:Vec) (q:Rat),dot W (fun i=>r i / q) x=dot W r x / q
 |0,_,_,_=>by simp only[dot];grind
 |n+1,r,x,q=>by
  simp only[dot];rw[Qde n r x q];grind
def upd(x:Vec)(h:Nat)(v:Rat):Vec:=fun c=>if c=h then v else x c
theorem Qb3(x:Vec)(h:Nat)(v:Rat):upd x h v h=v:=if_pos rfl
theorem Qa1(x:Vec){h c:Nat}(v:Rat)(hc:c≠h):upd x h v c=x c:=if_neg hc
theorem Qdf:∀(W:Nat) (r x:Vec) (h:Nat) (v:Rat),h<W→dot W r (upd x h v)=dot W r x+r h*(v - x h)
 |0,_,_,_,_,hh=>by omega
 |n+1,r,x,h,v,hh=>by
  simp only[dot];by_cases e:h=n
  ·
   subst e;rw[Qat h r (upd x h v) r x (fun c hc=>by rw[Qa1 _ _ (by omega)]),Qb3];grind
  · rw[Qdf n r x h v (by omega),Qa1 _ _ (Ne.symm e)]
    grind
theorem Qhe(W:Nat)(r x:Vec)(h:Nat)(hh:h<W)(h0:∀c,c<W→c≠h→r c*x c=0):dot W r x=r h*x h:=by
 have h1:=Qdf W r (upd x h 0) h (x h) hh;have h2:upd (upd x h 0) h (x h)=x:=by
  funext c;by_cases e:c=h
  · subst e;rw[Qb3]
  · rw[Qa1 _ _ e,Qa1 _ _ e]
 rw[h2,Qb2 W r (upd x h 0) (fun c hc=>?_),Qb3] at h1
 · rw[h1];grind
 ·
  by_cases e:c=h
  · subst e;rw[Qb3];grind
  · rw[Qa1 _ _ e];exact h0 c hc e
def Null(W:Nat)(S:List Vec)(x:Vec):Prop:=∀r,r∈ S→dot W r x=0
theorem Null.cons{W:Nat}{r:Vec}{S:List Vec}{x:Vec}:Null W (r :: S) x↔dot W r x=0∧Null W S x:=by
 unfold Null;simp
theorem Null.app{W:Nat}{S T:List Vec}{x:Vec}:Null W (S++T) x↔Null W S x∧Null W T x:=by
 unfold Null;simp only[List.mem_append];exact⟨fun h=>⟨fun r hr=>h r (.inl hr),fun r hr=>h r (.inr hr)⟩,fun h r hr=>hr.elim (h.1 r) (h.2 r)⟩
def Ech:Nat→Nat→List Vec→List Nat→Prop
 |lo,hi,[],[]=>lo≤hi
 |lo,hi,r :: S,h :: hs=>lo≤h∧r h≠0∧(∀c,c<h→r c=0)∧Ech (h+1) hi S hs
 |_,_,_,_=>False
theorem Ech.le:∀{S:List Vec} {hs:List Nat} {lo hi:Nat},Ech lo hi S hs→lo≤hi
 | [],[],_,_,h=>h
 |r :: S,h :: hs,lo,hi,⟨h1,_,_,h2⟩=>by have:=Ech.le h2;omega
 | [],_ :: _,_,_,h=>h.elim
 |r :: S,[],_,_,h=>h.elim
theorem Ech.len:∀{S:List Vec} {hs:List Nat} {lo hi:Nat},Ech lo hi S hs→S.length=hs.length
 | [],[],_,_,h=>rfl
 |r :: S,h :: hs,lo,hi,⟨_,_,_,h2⟩=>by have:=Ech.len h2;simp only[List.length_cons];omega
 | [],_ :: _,_,_,h=>h.elim
 |r :: S,[],_,_,h=>h.elim
theorem Ech.mono:∀{S:List Vec} {hs:List Nat} {lo hi hi':Nat},Ech lo hi S hs→hi≤hi'→Ech lo hi' S hs
 | [],[],_,_,_,h,k=>Nat.le_trans h k
 |r :: S,h :: hs,lo,hi,hi',⟨h1,h2,h3,h4⟩,k=>⟨h1,h2,h3,h4.mono k⟩
 | [],_ :: _,_,_,_,h,_=>h.elim
 |r :: S,[],_,_,_,h,_=>h.elim
theorem Ech.head:∀{S:List Vec} {hs:List Nat} {lo hi:Nat},Ech lo hi S hs→∀c,c∈ hs→lo≤c∧c<hi
 | [],[],_,_,h,c,hc=>by cases hc
 |r :: S,h :: hs,lo,hi,⟨h1,h2,h3,h4⟩,c,hc=>by
  rcases List.mem_cons.1 hc with rfl|hc
  · have:=h4.le;omega
  · have:=h4.head c hc;omega
 | [],_ :: _,_,_,h,_,_=>h.elim
 |r :: S,[],_,_,h,_,_=>h.elim
theorem Ech.zero:∀{S:List Vec} {hs:List Nat} {lo hi:Nat},Ech lo hi S hs→∀r,r∈ S→∀c,c<lo→r c=0
 | [],[],_,_,h,r,hr,_,_=>by cases hr
 |s :: S,h :: hs,lo,hi,⟨h1,h2,h3,h4⟩,r,hr,c,hc=>by
  rcases List.mem_cons.1 hr with rfl|hr
  · exact h3 c (by omega)
  · exact h4.zero r hr c (by omega)
 | [],_ :: _,_,_,h,_,_,_,_=>h.elim
 |r :: S,[],_,_,h,_,_,_,_=>h.elim
theorem Ech.snoc:∀{S:List Vec} {hs:List Nat} {lo hi c:Nat} {s:Vec},Ech lo hi S hs→hi≤c→s c≠0→(∀i,i<c→s i=0)→Ech lo (c+1) (S++ [s]) (hs++ [c])
 | [],[],lo,hi,c,s,h,k,h1,h2=>⟨Nat.le_trans h k,h1,h2,Nat.le_refl _⟩
 |r :: S,h :: hs,lo,hi,c,s,⟨h1,h2,h3,h4⟩,k,k1,k2=>⟨h1,h2,h3,h4.snoc k k1 k2⟩
 | [],_ :: _,_,_,_,_,h,_,_,_=>h.elim
 |r :: S,[],_,_,_,_,h,_,_,_=>h.elim
theorem Ech.solve(W:Nat)(f:Vec):∀{S:List Vec} {hs:List Nat} {lo hi:Nat},Ech lo hi S hs→hi≤W→∃x:Vec,(∀c,c ∉ hs→x c=f c)∧Null W S x
 | [],[],_,_,_,_=>⟨f,fun _ _=>rfl,fun r hr=>by cases hr⟩
 |r :: S,h :: hs,lo,hi,⟨h1,h2,h3,h4⟩,hW=>by
  obtain⟨x,hx,hn⟩:=h4.solve W f hW;have hh:h<W:=by have:=h4.le;omega
  refine⟨upd x h (x h - dot W r x / r h),fun c hc=>?_,Null.cons.2 ⟨?_,fun s hs=>?_⟩⟩
  ·
   simp only[List.mem_cons,not_or] at hc;rw[Qa1 _ _ hc.1];exact hx c hc.2
  · rw[Qdf _ _ _ _ _ hh]
    grind
  · rw[Qdf _ _ _ _ _ hh,hn s hs,h4.zero s hs h (by omega)]
    grind
 | [],_ :: _,_,_,h,_=>h.elim
 |r :: S,[],_,_,h,_=>h.elim
def lessBy(c:Nat)(s r:Vec):Vec:=fun i=>r i - s i*(r c / s c)
structure Elim (W:Nat) (M:List Vec) (c:Nat) (L S:List Vec) (hs:List Nat):Prop where
 ech:Ech 0 c S hs
 zero:∀r,r∈ L→∀i,i<c→r i=0
 null:∀x,Null W M x↔Null W L x∧Null W S x
theorem Elim.start(W:Nat)(M:List Vec):Elim W M 0 M [] []:=⟨Nat.le_refl _,fun _ _ i hi=>by omega,fun x=>⟨fun h=>⟨h,fun r hr=>by cases hr⟩,fun h=>h.1⟩⟩
theorem Elim.skip{W c:Nat}{M L S:List Vec}{hs:List Nat}(h:Elim W M c L S hs)(h0:∀r,r∈ L→r c=0):Elim W M (c+1) L S hs:=
 ⟨h.ech.mono (Nat.le_succ _),fun r hr i hi=>by
   rcases Nat.lt_or_ge i c with h1|h1
   · exact h.zero r hr i h1
   · obtain rfl:i=c:=by omega
     exact h0 r hr,h.null⟩
theorem Elim.step{W c j:Nat}{M L S:List Vec}{hs:List Nat}{s:Vec}(h:Elim W M c L S hs)(hj:L[j]?=some s)(h0:s c≠0):Elim W M (c+1) ((L.eraseIdx j).map (lessBy c s)) (S++ [s]) (hs++ [c]):=by
 have hs':s∈ L:=List.mem_of_getElem? hj;have hz:∀i,i<c→s i=0:=h.zero s hs';refine⟨h.ech.snoc (Nat.le_refl _) h0 hz,fun r hr i hi=>?_,fun x=>?_⟩
 ·
  obtain⟨t,ht,rfl⟩:=List.mem_map.1 hr;have ht':=List.mem_of_mem_eraseIdx ht;unfold lessBy;rcases Nat.lt_or_ge i c with h1|h1
  · rw[hz i h1,h.zero t ht' i h1];grind
  · obtain rfl:i=c:=by omega
    grind
 ·
  rw[h.null x,Null.app];have hd:∀t:Vec,dot W s x=0→(dot W (lessBy c s t) x=0↔dot W t x=0):=fun t h1=>by
   unfold lessBy;rw[Qbj,h1];grind
  constructor
  ·
   rintro⟨h1,h2⟩;refine⟨fun r hr=>?_,h2,fun r hr=>?_⟩
   · obtain⟨t,ht,rfl⟩:=List.mem_map.1 hr
     exact(hd t (h1 s hs')).2 (h1 t (List.mem_of_mem_eraseIdx ht))
   · obtain rfl:r=s:=by simpa using hr
     exact h1 r hs'
  ·
   rintro⟨h1,h2,h3⟩;have h4:dot W s x=0:=h3 s (by simp);refine⟨fun r hr=>?_,h2⟩;obtain⟨i,hi⟩:=List.mem_iff_getElem?.1 hr;by_cases e:i=j
   ·
    subst e;obtain rfl:=Option.some.inj (hj.symm.trans hi);exact h4
   · have hm:r∈ L.eraseIdx j:=List.mem_eraseIdx_iff_getElem?.2 ⟨i,e,hi⟩
     exact(hd r h4).1 (h1 _ (List.mem_map.2 ⟨r,hm,rfl⟩))
theorem Elim.done{W:Nat}{M L S:List Vec}{hs:List Nat}(h:Elim W M W L S hs):Ech 0 W S hs∧∀x,Null W M x↔Null W S x:=by
 refine⟨h.ech,fun x=>?_⟩;rw[h.null x];exact⟨fun k=>k.2,fun k=>⟨fun r hr=>Qb2 W r x fun c hc=>by rw[h.zero r hr c hc];grind,k⟩⟩
def red(r:Vec):List Vec→List Nat→Vec
 |t :: T,h :: hs=>red (fun i=>r i - t i*r h) T hs
 |_,_=>r
def cln:List Vec→List Nat→List Vec
 |r :: S,h :: hs=>red (fun i=>r i / r h) (cln S hs) hs :: cln S hs
 |_,_=>[]
def Cln:Nat→Nat→List Vec→List Nat→Prop
 |lo,hi,[],[]=>lo≤hi
 |lo,hi,r :: S,h :: hs=>lo≤h∧r h=1∧(∀c,c<h→r c=0)∧(∀c,c∈ hs→r c=0)∧Cln (h+1) hi S hs
 |_,_,_,_=>False
theorem Cln.ech:∀{S:List Vec} {hs:List Nat} {lo hi:Nat},Cln lo hi S hs→Ech lo hi S hs
 | [],[],_,_,h=>h
 |r :: S,h :: hs,lo,hi,⟨h1,h2,h3,_,h4⟩=>⟨h1,by rw[h2];decide,h3,Cln.ech h4⟩
 | [],_ :: _,_,_,h=>h.elim
 |r :: S,[],_,_,h=>h.elim
theorem Qhf(W:Nat):∀{T:List Vec} {hs:List Nat} {lo hi:Nat} (r:Vec),Cln lo hi T hs→(∀c,c<lo→red r T hs c=r c)∧(∀c,c∈ hs→red r T hs c=0)∧∀x,Null W T x→dot W (red r T hs) x=dot W r x
 | [],[],_,_,r,_=>⟨fun _ _=>rfl,fun c hc=>by(cases hc),fun _ _=>rfl⟩
 |t :: T,h :: hs,lo,hi,r,⟨h1,h2,h3,h4,h5⟩=>by
  obtain⟨k1,k2,k3⟩:=Qhf W (fun i=>r i - t i*r h) h5;refine⟨fun c hc=>?_,fun c hc=>?_,fun x hx=>?_⟩
  ·
   simp only[red];rw[k1 c (by omega),h3 c (by omega)];grind
  ·
   simp only[red];rcases List.mem_cons.1 hc with rfl|hc
   · rw[k1 c (by omega),h2]
     grind
   · exact k2 c hc
  ·
   obtain⟨hx1,hx2⟩:=Null.cons.1 hx;simp only[red];rw[k3 x hx2,Qbj,hx1];grind
 | [],_ :: _,_,_,_,h=>h.elim
 |r :: S,[],_,_,_,h=>h.elim
theorem Qdg(W:Nat):∀{S:List Vec} {hs:List Nat} {lo hi:Nat},Ech lo hi S hs→Cln lo hi (cln S hs) hs∧∀x,Null W (cln S hs) x↔Null W S x
 | [],[],_,_,h=>⟨h,fun _=>Iff.rfl⟩
 |r :: S,h :: hs,lo,hi,⟨h1,h2,h3,h4⟩=>by
  obtain⟨k1,k2⟩:=Qdg W h4;obtain⟨j1,j2,j3⟩:=Qhf W (fun i=>r i / r h) k1;refine⟨⟨h1,?_,fun c hc=>?_,j2,k1⟩,fun x=>?_⟩
  · rw[j1 h (by omega)];grind
  · rw[j1 c (by omega),h3 c hc];grind
  ·
   simp only[cln];rw[Null.cons,Null.cons,k2 x];constructor
   ·
    rintro⟨e1,e2⟩;rw[j3 x ((k2 x).2 e2),Qde] at e1;exact⟨by grind,e2⟩
   ·
    rintro⟨e1,e2⟩;rw[j3 x ((k2 x).2 e2),Qde,e1];exact⟨by grind,e2⟩
 | [],_ :: _,_,_,h=>h.elim
 |r :: S,[],_,_,h=>h.elim
theorem Qez:∀(S:List Vec) (hs:List Nat),S.length=hs.length→(cln S hs).length=S.length
 | [],_,_=>rfl
 |r :: S,h :: hs,k=>by simp only[cln,List.length_cons];rw[Qez S hs (by simpa using k)]
 |r :: S,[],k=>by simp at k
theorem Ech.count:∀{S:List Vec} {hs:List Nat} {lo hi:Nat},Ech lo hi S hs→hs.length≤hi - lo
 | [],[],_,_,_=>Nat.zero_le _
 |r :: S,h :: hs,lo,hi,⟨h1,_,_,h4⟩=>by have:=h4.count;have:=h4.le;simp only[List.length_cons];omega
 | [],_ :: _,_,_,h=>h.elim
 |r :: S,[],_,_,h=>h.elim
theorem Ech.hole:∀{S:List Vec} {hs:List Nat} {lo hi:Nat},Ech lo hi S hs→hs.length<hi - lo→∃c,lo≤c∧c<hi∧c ∉ hs
 | [],[],lo,hi,_,k=>⟨lo,Nat.le_refl _,by simp at k;omega,by simp⟩
 |r :: S,h :: hs,lo,hi,⟨h1,_,_,h4⟩,k=>by
  have hle:=h4.le;simp only[List.length_cons] at k;rcases Nat.lt_or_ge lo h with h5|h5
  ·
   refine⟨lo,Nat.le_refl _,by omega,fun hc=>?_⟩;rcases List.mem_cons.1 hc with e|e
   · omega
   · have:=(h4.head lo e).1;omega
  ·
   obtain⟨c,c1,c2,c3⟩:=h4.hole (by omega);refine⟨c,by omega,c2,fun hc=>?_⟩;rcases List.mem_cons.1 hc with e|e
   · omega
   · exact c3 e
 | [],_ :: _,_,_,h,_=>h.elim
 |r :: S,[],_,_,h,_=>h.elim
theorem Ech.all:∀{S:List Vec} {hs:List Nat} {lo hi:Nat},Ech lo hi S hs→hs.length=hi - lo→∀i h,hs[i]?=some h→h=lo+i
 | [],[],lo,hi,_,k,i,h,e=>by simp at e
 |r :: S,h :: hs,lo,hi,⟨h1,_,_,h4⟩,k,i,g,e=>by
  have hle:=h4.le;have hct:=h4.count;simp only[List.length_cons] at k;obtain rfl:h=lo:=by omega
  match i,e with
  |0,e=>simp at e;omega
  |i+1,e=>
   have:=h4.all (by omega) i g (by simpa using e);omega
 | [],_ :: _,_,_,h,_,_,_,_=>h.elim
 |r :: S,[],_,_,h,_,_,_,_=>h.elim
theorem Ech.last:∀{S:List Vec} {hs:List Nat} {lo n:Nat},Ech lo (n+1) S hs→lo≤n→n ∉ hs→Ech lo n S hs
 | [],[],lo,n,_,k,_=>k
 |r :: S,h :: hs,lo,n,⟨h1,h2,h3,h4⟩,k,hn=>by
  have hle:=h4.le;simp only[List.mem_cons,not_or] at hn;exact⟨h1,h2,h3,h4.last (by omega) hn.2⟩
 | [],_ :: _,_,_,h,_,_=>h.elim
 |r :: S,[],_,_,h,_,_=>h.elim
theorem Ech.row:∀{S:List Vec} {hs:List Nat} {lo hi:Nat},Ech lo hi S hs→∀h,h∈ hs→∃r,r∈ S∧r h≠0∧∀c,c<h→r c=0
 | [],[],_,_,_,h,hh=>by cases hh
 |r :: S,k :: hs,lo,hi,⟨h1,h2,h3,h4⟩,h,hh=>by
  rcases List.mem_cons.1 hh with rfl|hh
  · exact⟨r,List.mem_cons_self,h2,h3⟩
  · obtain⟨s,s1,s2⟩:=h4.row h hh
    exact⟨s,List.mem_cons_of_mem _ s1,s2⟩
 | [],_ :: _,_,_,h,_,_=>h.elim
 |r :: S,[],_,_,h,_,_=>h.elim
theorem Cln.at:∀{S:List Vec} {hs:List Nat} {lo hi:Nat},Cln lo hi S hs→∀(i:Nat) (r:Vec) (h:Nat),S[i]?=some r→hs[i]?=some h→r h=1∧(∀c,c<h→r c=0)∧∀c,c∈ hs→h<c→r c=0
 | [],[],_,_,_,i,r,h,e,_=>by simp at e
 |s :: S,k :: hs,lo,hi,⟨h1,h2,h3,h4,h5⟩,i,r,h,e,e'=>by
  match i,e,e' with
  |0,e,e'=>
   simp at e e';subst e;subst e';refine⟨h2,h3,fun c hc hlt=>?_⟩;rcases List.mem_cons.1 hc with rfl|hc
   · omega
   · exact h4 c hc
  |i+1,e,e'=>
   obtain⟨a1,a2,a3⟩:=h5.at i r h (by simpa using e) (by simpa using e');refine⟨a1,a2,fun c hc hlt=>?_⟩;rcases List.mem_cons.1 hc with rfl|hc
   · have:=(h5.ech.head h (List.mem_of_getElem? (by simpa using e'))).1
     omega
   · exact a3 c hc hlt
 | [],_ :: _,_,_,h,_,_,_,_,_=>h.elim
 |r :: S,[],_,_,h,_,_,_,_,_=>h.elim
theorem Ech.full{W:Nat}{S:List Vec}{hs:List Nat}(h:Ech 0 W S hs)(hn:∀x,Null W S x→∀c,c<W→x c=0):hs.length=W:=by
 apply Classical.byContradiction;intro hne;have hc:=h.count;obtain⟨c,_,c2,c3⟩:=h.hole (by omega);obtain⟨x,x1,x2⟩:=h.solve W (fun i=>if i=c then 1 else 0) (Nat.le_refl _);have:=hn x x2 c c2;rw[x1 c c3,if_pos rfl] at this;revert this;decide
def wider(wide:Nat)(r:Vec)(v:Rat):Vec:=fun c=>if c=wide then v else r c
theorem Qms(wide:Nat)(r:Vec)(v:Rat)(y:Vec):dot (wide+1) (wider wide r v) y=dot wide r y+v*y wide:=by
 simp only[dot];rw[Qat wide (wider wide r v) y r y (fun c hc=>by unfold wider;rw[if_neg (by omega)])];unfold wider;rw[if_pos rfl]
def Sol(wide:Nat)(M:List Vec)(b:List Rat)(x:Vec):Prop:=∀(i:Nat) (r:Vec) (v:Rat),M[i]?=some r→b[i]?=some v→dot wide r x=v
theorem sol_null{wide:Nat}{M:List Vec}{b:List Rat}{x:Vec}:Sol wide M b x↔Null (wide+1) (List.zipWith (wider wide) M b) (wider wide x (-1)):=by
 have hd:∀(r:Vec) (v:Rat),dot (wide+1) (wider wide r v) (wider wide x (-1))=dot wide r x - v:=fun r v=>by
  rw[Qms,Qat wide r (wider wide x (-1)) r x (fun c hc=>by unfold wider;rw[if_neg (by omega)])];unfold wider;rw[if_pos rfl];grind
 constructor
 ·
  intro h r hr;obtain⟨i,hi⟩:=List.mem_iff_getElem?.1 hr;rw[List.getElem?_zipWith] at hi
  match hm:M[i]?,hb:b[i]?,hi with
  |some m,some v,hi=>
   simp at hi;subst hi;rw[hd,h i m v hm hb];grind
  |none,_,hi=>simp at hi
  |some m,none,hi=>simp at hi
 ·
  intro h i r v hr hv;have:=h (wider wide r v) (List.mem_iff_getElem?.2 ⟨i,by rw[List.getElem?_zipWith,hr,hv]⟩);rw[hd] at this;grind
theorem Qmt{wide:Nat}{M:List Vec}{b:List Rat}{S:List Vec}{hs:List Nat}(h:Ech 0 (wide+1) S hs)(hn:∀x,Null (wide+1) (List.zipWith (wider wide) M b) x↔Null (wide+1) S x)(hw:wide∈ hs)(x:Vec):¬Sol wide M b x:=by
 intro hx;have h1:=(hn _).1 (sol_null.1 hx);obtain⟨r,r1,r2,r3⟩:=h.row wide hw;have h2:=h1 r r1;rw[Qhe (wide+1) r _ wide (by omega) (fun c hc hne=>by rw[r3 c (by omega)];grind)] at h2;unfold wider at h2;rw[if_pos rfl] at h2;grind
theorem Qmu{wide:Nat}{M:List Vec}{b:List Rat}{S:List Vec}{hs:List Nat}(h:Ech 0 (wide+1) S hs)(hn:∀x,Null (wide+1) (List.zipWith (wider wide) M b) x↔Null (wide+1) S x)(hw:wide ∉ hs)(hl:hs.length<wide):
 ∃x y:Vec,Sol wide M b x∧Sol wide M b y∧∃c,c<wide∧x c≠y c:=by
 obtain⟨c,_,c2,c3⟩:=(h.last (Nat.zero_le _) hw).hole (by omega);have hs':∀f:Vec,∃x:Vec,(∀i,i ∉ hs→i≠wide→x i=f i)∧Sol wide M b x:=fun f=>by
  obtain⟨y,y1,y2⟩:=h.solve (wide+1) (wider wide f (-1)) (Nat.le_refl _);refine⟨y,fun i hi hne=>?_,sol_null.2 ?_⟩
  · rw[y1 i hi];unfold wider;rw[if_neg hne]
  ·
   rw[hn];have e:wider wide y (-1)=y:=by
    funext i;unfold wider;by_cases e:i=wide
    ·
     subst e;rw[if_pos rfl,y1 i hw];unfold wider;rw[if_pos rfl]
    · rw[if_neg e]
   rw[e];exact y2
 obtain⟨x,x1,x2⟩:=hs' (fun _=>0);obtain⟨y,y1,y2⟩:=hs' (fun _=>1);refine⟨x,y,x2,y2,c,c2,?_⟩;rw[x1 c c3 (by omega),y1 c c3 (by omega)];decide
theorem Qmv{wide:Nat}{M:List Vec}{b:List Rat}{S:List Vec}{hs:List Nat}(h:Ech 0 (wide+1) S hs)(hn:∀x,Null (wide+1) (List.zipWith (wider wide) M b) x↔Null (wide+1) S x)(hw:wide ∉ hs)(hl:¬hs.length<wide):
 hs.length=wide∧(∀i h:Nat,hs[i]?=some h→h=i)∧∀x:Vec,Sol wide M b x↔∀(i:Nat) (r:Vec),(cln S hs)[i]?=some r→x i=r wide:=by
 have h0:=h.last (Nat.zero_le _) hw;have hc:=h0.count;have hlen:hs.length=wide:=by omega
 have hall:∀i h:Nat,hs[i]?=some h→h=i:=fun i k e=>by have:=h0.all (by omega) i k e;omega
 refine⟨hlen,hall,fun x=>?_⟩;obtain⟨k1,k2⟩:=Qdg (wide+1) h;rw[sol_null,hn,←k2];have hd:∀(i:Nat) (r:Vec),(cln S hs)[i]?=some r→dot (wide+1) r (wider wide x (-1))=x i - r wide:=fun i r hr=>by
  have hi:i<wide:=by
   have h1:=(List.getElem?_eq_some_iff.1 hr).1;rw[Qez S hs h.len,h.len] at h1;omega
  obtain⟨g,hg⟩:∃g,hs[i]?=some g:=⟨hs[i]'(by omega),List.getElem?_eq_getElem (by omega)⟩;obtain rfl:=hall i g hg;obtain⟨a1,a2,a3⟩:=k1.at _ r _ hr hg;simp only[dot];rw[Qhe wide r _ g hi (fun c hc hne=>?_),a1]
  ·
   unfold wider;rw[if_pos rfl,if_neg (by omega)];grind
  ·
   have:r c=0:=by
    rcases Nat.lt_or_ge c g with h1|h1
    · exact a2 c h1
    ·
     refine a3 c ?_ (by omega);obtain⟨u,hu⟩:∃u,hs[c]?=some u:=⟨hs[c]'(by omega),List.getElem?_eq_getElem (by omega)⟩;obtain rfl:=hall c u hu;exact List.mem_of_getElem? hu
   rw[this];grind
 constructor
 ·
  intro hx i r hr;have:=hx r (List.mem_of_getElem? hr);rw[hd i r hr] at this;grind
 ·
  intro hx r hr;obtain⟨i,hi⟩:=List.mem_iff_getElem?.1 hr;rw[hd i r hi,hx i r hi];grind
end Go.Proofs.YtbbkamnfjejceaaGreatDoor
namespace Go.Proofs.YtbbkamnfjejceaaGreatDoor
namespace Sg
theorem Qi8:∀(M N:Nat) (f:Nat→Nat),M<N→(∀n,n<N→f n<M)→∃a b,a<b∧b<N∧f a=f b
 |0,N,f,h,hf=>absurd (hf 0 (by omega)) (by omega)
 |M+1,0,f,h,hf=>absurd h (by omega)
 |M+1,N+1,f,h,hf=>by
  by_cases hv:∃a,a<N∧f a=f N
  · obtain⟨a,ha,e⟩:=hv
    exact⟨a,N,ha,by omega,e⟩
  ·
   have hne:∀n,n<N→f n≠f N:=fun n hn e=>hv ⟨n,hn,e⟩
   obtain⟨a,b,hab,hb,e⟩:=Qi8 M N (fun n=>if f N<f n then f n - 1 else f n) (by omega) (fun n hn=>by
    have h1:=hf n (by omega);have h2:=hf N (by omega);have h3:=hne n hn
    show (if f N<f n then f n - 1 else f n)<M
    split<;>omega)
   refine⟨a,b,hab,by omega,?_⟩;have h1:=hne a (by omega);have h2:=hne b hb
   split at e<;>split at e<;>omega
def isum:Nat→(Nat→Int)→Int
 |0,_=>0
 |n+1,f=>isum n f+f n
theorem Qi9:∀(n:Nat) (f g:Nat→Int),isum n (fun j=>f j - g j)=isum n f - isum n g
 |0,_,_=>by simp[isum]
 |n+1,f,g=>by simp only[isum,Qi9 n f g];omega
theorem Qja:∀(n:Nat) (f g:Nat→Int),(∀j,j<n→f j=g j)→isum n f=isum n g
 |0,_,_,_=>rfl
 |n+1,f,g,h=>by simp only[isum];rw[Qja n f g (fun j hj=>h j (by omega)),h n (by omega)]
theorem isum_le:∀(n:Nat) (f:Nat→Int) (l u:Int),(∀j,j<n→l≤f j∧f j≤u)→n*l≤isum n f∧isum n f≤n*u
 |0,_,_,_,_=>by simp[isum]
 |n+1,f,l,u,h=>by
  have h1:=isum_le n f l u (fun j hj=>h j (by omega));have h2:=h n (by omega);simp only[isum];have e1:((n+1:Nat):Int)*l=n*l+l:=by rw[Int.natCast_add,Int.add_mul];simp
  have e2:((n+1:Nat):Int)*u=n*u+u:=by rw[Int.natCast_add,Int.add_mul];simp
  rw[e1,e2];omega
def dig(B n j:Nat):Nat:=n / B ^ j % B
theorem Qfq{B:Nat}(hB:0<B)(n j:Nat):dig B n j<B:=Nat.mod_lt _ hB
theorem Qjb{B:Nat}(hB:0<B):∀(k m n:Nat),m<B ^ k→n<B ^ k→(∀j,j<k→dig B m j=dig B n j)→m=n
 |0,m,n,hm,hn,_=>by simp at hm hn;omega
 |k+1,m,n,hm,hn,h=>by
  have h0:m % B=n % B:=by have:=h 0 (by omega);simpa [dig] using this
  have h1:m / B=n / B:=Qjb hB k (m / B) (n / B) (by rw[Nat.div_lt_iff_lt_mul hB];rwa [Nat.pow_succ] at hm) (by rw[Nat.div_lt_iff_lt_mul hB];rwa [Nat.pow_succ] at hn) (fun j hj=>by
   have:=h (j+1) (by omega);simp only[dig] at this ⊢;rw[Nat.div_div_eq_div_mul,Nat.div_div_eq_div_mul,←Nat.pow_succ']
   exact this)
  rw[←Nat.div_add_mod m B,←Nat.div_add_mod n B,h0,h1]
def code(D:Nat)(v:Nat→Nat):Nat→Nat
 |0=>0
 |k+1=>code D v k+v k*D ^ k
theorem Qdy{D:Nat}{v:Nat→Nat}:∀(k:Nat),(∀i,i<k→v i<D)→code D v k<D ^ k
 |0,_=>by simp[code]
 |k+1,h=>by
  have h1:=Qdy k (fun i hi=>h i (by omega));have h2:=h k (by omega);simp only[code,Nat.pow_succ];have h3:v k*D ^ k+D ^ k≤D ^ k*D:=by
   rw[Nat.mul_comm (D ^ k) D,←Nat.succ_mul];exact Nat.mul_le_mul_right _ h2
  omega
theorem Qjc{D:Nat}{v u:Nat→Nat}:∀(k:Nat),(∀i,i<k→v i<D)→(∀i,i<k→u i<D)→code D v k=code D u k→∀i,i<k→v i=u i
 |0,_,_,_,i,hi=>absurd hi (by omega)
 |k+1,hv,hu,e,i,hi=>by
  have h1:=Qdy k (fun i hi=>hv i (by omega));have h2:=Qdy k (fun i hi=>hu i (by omega));simp only[code] at e;have e1:v k=u k:=by
   have a1:(code D v k+v k*D ^ k) / D ^ k=v k:=by
    rw[Nat.add_mul_div_right _ _ (by omega),Nat.div_eq_of_lt h1,Nat.zero_add]
   have a2:(code D u k+u k*D ^ k) / D ^ k=u k:=by
    rw[Nat.add_mul_div_right _ _ (by omega),Nat.div_eq_of_lt h2,Nat.zero_add]
   rw[←a1,e,a2]
  rw[e1] at e;by_cases hik:i=k
  · rw[hik];exact e1
  · exact Qjc k (fun i hi=>hv i (by omega)) (fun i hi=>hu i (by omega)) (by omega) i (by omega)
theorem Qrg{a B:Nat}{z:Int}{x:Nat}(h: -(a:Int)≤z∧z≤a)(hx:x≤B): -((a*B:Nat):Int)≤z*x∧z*x≤((a*B:Nat):Int):=by
 have h1:z.natAbs≤a:=by omega
 have h2:(z*x).natAbs≤a*B:=by
  rw[Int.natAbs_mul,Int.natAbs_natCast];exact Nat.mul_le_mul h1 hx
 omega
theorem siegel(k a:Nat)(ha:0<a)(A:Nat→Nat→Int)(hA:∀i j,i<k→j<k+1→ -(a:Int)≤A i j∧A i j≤a):
 ∃y:Nat→Int,(∃j,j<k+1∧y j≠0)∧(∀i,i<k→isum (k+1) (fun j=>A i j*y j)=0)∧∀j,(y j).natAbs≤(2*((k+1)*a)) ^ k:=by
 obtain⟨E,hE⟩:∃E,2*((k+1)*a)=E:=⟨_,rfl⟩;have hE0:0<E:=by rw[←hE];exact Nat.mul_pos (by omega) (Nat.mul_pos (by omega) ha)
 rw[hE];obtain⟨B,hB⟩:∃B,E ^ k=B:=⟨_,rfl⟩;rw[hB];have hBp:0<B+1:=by omega
 obtain⟨H,hH⟩:∃H,(k+1)*(a*B)=H:=⟨_,rfl⟩;have hEH:E*B=2*H:=by rw[←hE,←hH,Nat.mul_assoc,Nat.mul_assoc]
 have hL:∀n i,i<k→ -(H:Int)≤isum (k+1) (fun j=>A i j*(dig (B+1) n j:Int))∧isum (k+1) (fun j=>A i j*(dig (B+1) n j:Int))≤H:=fun n i hi=>by
  have:=isum_le (k+1) (fun j=>A i j*(dig (B+1) n j:Int)) (-((a*B:Nat):Int)) ((a*B:Nat):Int) (fun j hj=>Qrg (hA i j hi hj) (by have:=Qfq hBp n j;omega));rw[Int.mul_neg,←Int.natCast_mul,hH] at this;exact this
 have hv:∀n i,i<k→(isum (k+1) (fun j=>A i j*(dig (B+1) n j:Int))+H).toNat<E*B+1:=fun n i hi=>by
  have:=hL n i hi;omega
 obtain⟨m,n,hmn,hn,e⟩:=Qi8 ((E*B+1) ^ k) ((B+1) ^ (k+1)) (fun n=>code (E*B+1) (fun i=>(isum (k+1) (fun j=>A i j*(dig (B+1) n j:Int))+H).toNat) k)
  (by
    have h1:(E*B+1) ^ k≤(E*(B+1)) ^ k:=Nat.pow_le_pow_left (by rw[Nat.mul_add];omega) k;rw[Nat.mul_pow,hB] at h1;have h2:0<(B+1) ^ k:=Nat.pow_pos hBp;have h3:(B+1) ^ k*(B+1)=B*(B+1) ^ k+(B+1) ^ k:=by rw[Nat.mul_add,Nat.mul_one,Nat.mul_comm]
    rw[Nat.pow_succ,h3]
    omega)
  (fun n _=>Qdy k (fun i hi=>hv n i hi))
 have he:=Qjc k (fun i hi=>hv m i hi) (fun i hi=>hv n i hi) e;refine⟨fun j=>(dig (B+1) m j:Int) - (dig (B+1) n j:Int),?_,fun i hi=>?_,fun j=>?_⟩
 ·
  by_cases hx:∃j,j<k+1∧(dig (B+1) m j:Int) - (dig (B+1) n j:Int)≠0
  · exact hx
  ·
   exfalso
   have:=Qjb hBp (k+1) m n (by omega) hn (fun j hj=>by
    by_cases hd:(dig (B+1) m j:Int) - (dig (B+1) n j:Int)=0
    · omega
    · exact absurd ⟨j,hj,hd⟩ hx)
   omega
 ·
  have h1:=he i hi;have h2:=hL m i hi;have h3:=hL n i hi;have h4:=Qi9 (k+1) (fun j=>A i j*(dig (B+1) m j:Int)) (fun j=>A i j*(dig (B+1) n j:Int));rw[Qja (k+1) _ (fun j=>A i j*(dig (B+1) m j:Int) - A i j*(dig (B+1) n j:Int)) (fun j _=>Int.mul_sub _ _ _),h4];omega
 ·
  have h1:=Qfq hBp m j;have h2:=Qfq hBp n j
  show ((dig (B+1) m j:Int) - (dig (B+1) n j:Int)).natAbs≤B
  omega
end Sg
set_option linter.unusedVariables false
set_option linter.unusedSimpArgs false
def vec(l:List Rat):Vec:=fun i=>l.getD i 0
def cornerM:List Vec:=[vec [1,0,0,1,0,0],vec [0,0,1,0,1,0],vec [-1,-1,0,0,0,0],vec [0,1,0,0,0,1],vec [0,1,0,0,0,0],vec [0,-1,-1,0,0,0]]
theorem Qge(x:Vec):dot 6 (vec [1,0,0,1,0,0]) x=x 0+x 3∧dot 6 (vec [0,0,1,0,1,0]) x=x 2+x 4∧dot 6 (vec [-1,-1,0,0,0,0]) x= - x 0 - x 1∧dot 6 (vec [0,1,0,0,0,1]) x=x 1+x 5∧dot 6 (vec [0,1,0,0,0,0]) x=x 1∧dot 6 (vec [0,-1,-1,0,0,0]) x= - x 1 - x 2:=by
 simp only[dot,vec,List.getD_cons_zero,List.getD_cons_succ];refine⟨?_,?_,?_,?_,?_,?_⟩<;>grind
theorem Qk8(x:Vec)(h:Null 6 cornerM x)(c:Nat)(hc:c<6):x c=0:=by
 obtain⟨d0,d1,d2,d3,d4,d5⟩:=Qge x;have h0:=h (vec [1,0,0,1,0,0]) (by simp[cornerM]);have h1:=h (vec [0,0,1,0,1,0]) (by simp[cornerM]);have h2:=h (vec [-1,-1,0,0,0,0]) (by simp[cornerM]);have h3:=h (vec [0,1,0,0,0,1]) (by simp[cornerM]);have h4:=h (vec [0,1,0,0,0,0]) (by simp[cornerM]);have h5:=h (vec [0,-1,-1,0,0,0]) (by simp[cornerM]);have e:c=0∨c=1∨c=2∨c=3∨c=4∨c=5:=by omega
 rcases e with rfl|rfl|rfl|rfl|rfl|rfl<;>grind
theorem Qef(x:Vec):Sol 6 cornerM [0,0,0,0,-1,0] x↔x 0=1∧x 1= -1∧x 2=1∧x 3= -1∧x 4= -1∧x 5=1:=by
 obtain⟨d0,d1,d2,d3,d4,d5⟩:=Qge x;constructor
 ·
  intro h;have h0:=h 0 _ _ rfl rfl;have h1:=h 1 _ _ rfl rfl;have h2:=h 2 _ _ rfl rfl;have h3:=h 3 _ _ rfl rfl;have h4:=h 4 _ _ rfl rfl;have h5:=h 5 _ _ rfl rfl;grind
 ·
  rintro⟨e0,e1,e2,e3,e4,e5⟩ i r v hr hv
  match i,hr,hv with
  |0,hr,hv=>cases hr;cases hv;grind
  |1,hr,hv=>cases hr;cases hv;grind
  |2,hr,hv=>cases hr;cases hv;grind
  |3,hr,hv=>cases hr;cases hv;grind
  |4,hr,hv=>cases hr;cases hv;grind
  |5,hr,hv=>cases hr;cases hv;grind
  |i+6,hr,hv=>simp[cornerM] at hr
open Go.RowKit
structure Fr (w w':World):Prop where
 size:w.heap.size≤w'.heap.size
 keep:∀b i u,w.cell? ⟨b,i,none⟩=some u→((∃x,u=Value.bool x)∨∃n,u=Value.int .u64 n)→w'.heap[b]?=w.heap[b]?
theorem Fr.cell{w w':World}(h:Fr w w'){b i:Nat}{u:Value}(hu:w.cell? ⟨b,i,none⟩=some u)(hk:(∃x,u=Value.bool x)∨∃n,u=Value.int .u64 n)(j:Nat):w'.cell? ⟨b,j,none⟩=w.cell? ⟨b,j,none⟩:=
 World.cell?_of_block (w:=w) (h.keep b i u hu hk)
theorem Fr.trans{u v w:World}(h:Fr u v)(k:Fr v w):Fr u w:=
 ⟨Nat.le_trans h.size k.size,fun b i x hx hk=>(k.keep b i x ((h.cell hx hk i).trans hx) hk).trans (h.keep b i x hx hk)⟩
theorem Fr.of_below{w w':World}(h:Below w.heap.size w w'):Fr w w':=⟨h.size,fun b i u hu _=>h.block b (World.block_lt_of_cell? _ _ hu)⟩
def Plain(C:Array Value):Prop:=∀u,u∈ C.toList→(∀x,u≠Value.bool x)∧∀n,u≠Value.int .u64 n
theorem Fr.of_only{w w':World}{g:Nat}{t:TypeId}{C:Array Value}(ho:Only g w w')(hs:SB w g t C)(hC:Plain C):Fr w w':=by
 refine⟨ho.size,fun b i u hu hk=>ho.block b (World.block_lt_of_cell? _ _ hu) ?_⟩;rintro rfl;rw[hs.cell] at hu;obtain⟨h1,h2⟩:=hC u (List.mem_of_getElem? (by rw[Array.getElem?_toList];exact hu));rcases hk with ⟨x,e⟩|⟨n,e⟩
 · exact h1 x e
 · exact h2 n e
theorem Row.fr{w w':World}{a:Option Addr}{cap:Nat}{l:List Nat}(h:Row .u64 w a cap l)(ho:Fr w w'):Row .u64 w' a cap l:=by
 refine⟨h.fit,?_,fun i hi=>?_⟩
 ·
  rcases h.shape with h1|⟨b',off,rfl,h2⟩
  · exact .inl h1
  · exact .inr ⟨b',off,rfl,by have:=ho.size;omega⟩
 · obtain⟨b',off,h1,h2,h3⟩:=h.cell i hi
   exact⟨b',off,h1,by have:=ho.size;omega,(ho.cell h3 (.inr ⟨_,rfl⟩) _).trans h3⟩
theorem NumV.fr{w w':World}{a:Option Addr}{n c x:Nat}(h:NumV w a n c x)(ho:Fr w w'):NumV w' a n c x:=by
 obtain⟨l,hl,h⟩:=h;exact⟨l,hl,h.row.fr ho,h.num,h.short⟩
theorem FracV.fr{w w':World}{v:Value}{q:Rat}(h:FracV w v q)(ho:Fr w w'):FracV w' v q:=by
 obtain⟨neg,a,n,c,b,m,d,e,h⟩:=h;refine⟨neg,a,n,c,b,m,d,e,h.neg,h.top.fr ho,?_⟩;rcases h.low with h1|⟨h1,h2⟩
 · exact .inl h1
 · exact .inr ⟨h1,h2.fr ho⟩
theorem QRow.fr{w w':World}{a:Option Addr}{cap:Nat}{ts:List FE}(h:QRow w a cap ts)(ho:Fr w w'):QRow w' a cap ts:=by
 refine⟨⟨h.row.fit,⟨fun j u hj=>?_⟩⟩,fun t ht=>⟨(h.ts t ht).1.fr ho,(h.ts t ht).2⟩⟩;obtain⟨b,off,ha,hb,hc⟩:=h.row.row.cell j u hj;have hjl:j<(ts.flatMap FE.cells).length:=(List.getElem?_eq_some_iff.1 hj).1;rw[Qa9 (sz:=3) (fun _=>rfl)] at hjl;obtain⟨e,he⟩:∃e,ts[j / 3]?=some e:=⟨ts[j / 3]'(by omega),List.getElem?_eq_getElem (by omega)⟩;obtain⟨b',off',ha',_,h0,_⟩:=h.at he;rw[ha] at ha';cases ha';obtain⟨n,x,y,z,x',y',z',hv,_⟩:=(h.get he).1;simp at hv;rw[hv.1] at h0;refine⟨b,off,ha,Nat.lt_of_lt_of_le hb ho.size,?_⟩;rw[ho.cell h0 (.inl ⟨_,rfl⟩)];exact hc
structure Grow (w:World) (B:Nat) (e:TypeId) (sz:Nat) (K:Value→Prop) (v:Value) (n:Nat) (xs:List Value):Prop where
 own:w.ownsRow B e sz v n xs
 all:∀g,v.ownBlock=some g→∃C,w.heap[g]?=some (.cells C e (0,0))∧∀u,u∈ C.toList→K u
theorem Grow.nil(w:World)(B:Nat)(e:TypeId)(sz:Nat)(K:Value→Prop):Grow w B e sz K (.slice none 0 0) 0 []:=⟨World.ownsRow_nil w B e sz,fun g hg=>by simp[Value.ownBlock] at hg⟩
theorem Grow.keep{w w':World}{B:Nat}{e:TypeId}{sz:Nat}{K:Value→Prop}{v:Value}{n:Nat}{xs:List Value}(h:Grow w B e sz K v n xs)(hk:∀g,v.ownBlock=some g→w'.heap[g]?=w.heap[g]?):Grow w' B e sz K v n xs:=by
 refine⟨⟨h.own.1,?_⟩,fun g hg=>?_⟩
 ·
  rcases h.own.2 with h1|⟨g,cap,cur,rfl,hb,hg,h2⟩
  · exact .inl h1
  · exact .inr ⟨g,cap,cur,rfl,hb,by rw[hk g rfl];exact hg,h2⟩
 · obtain⟨C,h1,h2⟩:=h.all g hg
   exact⟨C,by rw[hk g hg];exact h1,h2⟩
theorem Qi4{z:Array Value}{n:Nat}{u:Value}(hu:u∈ (Builtin.zeroCells z n).toList):u∈ z.toList:=by
 simp[Builtin.zeroCells] at hu;obtain⟨j,hj,e⟩:=hu;have h0:0<z.size:=by
  rcases Nat.eq_zero_or_pos z.size with h|h
  · rw[h] at hj;omega
  · exact h
 rw[getElem!_pos z (j % z.size) (Nat.mod_lt _ h0)] at e;rw[←e];exact Array.getElem_mem_toList _
theorem Grow.app{P:Program}{w:World}{B:Nat}{t ty e:TypeId}{i:TypeInfo}{z:Value}{sz bytes:Nat}{K:Value→Prop}{v:Value}{n:Nat}{xs:List Value}(h:Grow w B e sz K v n xs)
 (ht:P.underlying t=some (.slice e)) (hi:P.info? e=some i) (hz:i.zero=some z) (hsize:i.size=sz) (hby:i.bytes=bytes) (hzs:z.cells.size=sz) (hsz:0<sz) (hKz:∀u,u∈ z.cells.toList→K u)
 (a:Addr) (m c:Nat) (news:List Value) (hl:news.length=m*sz) (hnews:∀j u,news[j]?=some u→w.cell? (a.add j)=some u) (h1:∀u,u∈ news→u.oneCell'=true) (hK:∀u,u∈ news→K u)
 (hnm:n+m≤1048576) (hb64:bytes≤1000) (hbase:B≤w.heap.size):
 ∃v' w',(Builtin.append_ #[t,t] ty #[v,.slice (some a) m c]).run P w=.ok v' w'∧Grow w' B e sz K v' (n+m) (xs++news)∧w.grownBy w' v.ownBlock∧(v'.ownBlock=v.ownBlock∨v'.ownBlock=some w.heap.size):=by
 have hbm:(n+m)*bytes≤1048576*1000:=Nat.mul_le_mul hnm hb64;obtain⟨v',w',hr,hown,hgrow,hnil,hat⟩:=run_append_own_at (P:=P) w B t ty e i z sz bytes ht hi hz hsize hby hzs hsz v n xs h.own a m c news hl hnews h1 (by unfold maxLen;omega) (by omega) hbase;refine⟨v',w',hr,⟨hown,?_⟩,hgrow,hat⟩;have hl':news.length=m*i.size:=by rw[hsize];exact hl
 have hxl:xs.length=n*i.size:=by rw[hsize];exact h.own.1
 have hgen:∀(C:Array Value) (w1:World) (n cap:Nat),(∀u,u∈ C.toList→K u)→∀g,(Value.slice (some ⟨w1.heap.size,0,none⟩) n cap).ownBlock=some g→∃D,(w1.drew.alloc (.cells C e)).heap[g]?=some (.cells D e (0,0))∧∀u,u∈ D.toList→K u:=fun C w1 n cap hC g hg=>by
  have e:w1.heap.size=g:=by simpa [Value.ownBlock] using hg
  subst e;exact⟨C,heap_alloc_new w1.drew _,hC⟩
 rcases h.own.2 with ⟨rfl,rfl⟩|⟨g,cap,cur,rfl,hbg,hg,hnc,hcm,hcs,htake⟩
 ·
  by_cases hm:m=0
  · rw[hnil.2 ⟨rfl,hm⟩]
    exact fun g hg=>by simp[Value.ownBlock] at hg
  rw[run_append_nil (P:=P) w t ty e i z ht hi hz a m c news hl' hnews (by omega) (by omega) (by rw[hby];simp only[Nat.zero_add] at hbm;omega)] at hr;injection hr with e1 e2
  subst e1;subst e2;refine hgen _ w _ _ fun u hu=>?_
  simp only[Array.toList_append,List.mem_append] at hu;rcases hu with hu|hu
  · exact hK u hu
  · exact hKz u (Qi4 hu)
 ·
  obtain⟨C,hC,hCK⟩:=h.all g rfl;rw[hg] at hC;injection hC with hC
  injection hC with hC _ _
  subst hC;by_cases hroom:n+m≤cap
  ·
   have hfit:n*i.size+news.length≤cur.size:=by rw[hl',hcs,hsize,←Nat.add_mul];exact Nat.mul_le_mul_right _ hroom
   rw[run_append_room (P:=P) w t ty e i ht hi g n cap cur hg a m c news hl' hnews h1 hroom hfit] at hr;injection hr with e1 e2
   subst e1;subst e2;intro g' hg';have e:g=g':=by simpa [Value.ownBlock] using hg'
   subst e;refine⟨_,setRow_heap w g cur _ e _ hg,fun u hu=>?_⟩;simp only[List.toList_toArray,List.mem_append] at hu;rcases hu with (hu|hu)|hu
   · exact hCK u (List.mem_of_mem_take hu)
   · exact hK u hu
   · exact hCK u (List.mem_of_mem_drop hu)
  ·
   have holds:∀j u,xs[j]?=some u→w.cell? ((⟨g,0,none⟩:Addr).add j)=some u:=h.own.cells (g:=g) rfl;rw[run_append_grow (P:=P) w t ty e i z ht hi hz ⟨g,0,none⟩ n cap xs hxl holds a m c news hl' hnews (by omega) (by omega) (by rw[hby];exact growslice_fits (by omega) (by omega))] at hr;injection hr with e1 e2
   subst e1;subst e2;refine hgen _ w _ _ fun u hu=>?_
   simp only[Array.toList_append,List.mem_append] at hu;rcases hu with (hu|hu)|hu
   · rw[←htake] at hu
     exact hCK u (List.mem_of_mem_take hu)
   · exact hK u hu
   · exact hKz u (Qi4 hu)
def MR.val(r:MR):Value:=.slice r.a r.ts.length r.cap
theorem Qdx(rs:List MR):rs.flatMap MR.cells=rs.map MR.val:=by
 induction rs with
 |nil=>rfl
 |cons r l ih=>rw[List.flatMap_cons,ih];rfl
def IsSl(u:Value):Prop:=∃a n c,u=Value.slice a n c
theorem Qql(rs:List MR):∀u,u∈ rs.map MR.val→IsSl u:=fun u hu=>by
 obtain⟨r,_,rfl⟩:=List.mem_map.1 hu;exact⟨_,_,_,rfl⟩
theorem Qqm(rs:List MR):∀u,u∈ rs.map MR.val→u.oneCell'=true:=fun u hu=>by
 obtain⟨r,_,rfl⟩:=List.mem_map.1 hu;rfl
theorem IsSl.plain{C:Array Value}(h:∀u,u∈ C.toList→IsSl u):Plain C:=fun u hu=>by
 obtain⟨a,n,c,rfl⟩:=h u hu;exact⟨fun x=>by simp,fun n=>by simp⟩
def FE.re(K:Nat)(t:FE):FE:=⟨t.x,t.y,t.z,t.q,K⟩
theorem Qqn(K:Nat)(ts:List FE):(ts.map (FE.re K)).flatMap FE.cells=ts.flatMap FE.cells:=by
 induction ts with
 |nil=>rfl
 |cons t l ih=>rw[List.map_cons,List.flatMap_cons,ih,List.flatMap_cons];rfl
theorem QRow.re{w:World}{a:Option Addr}{cap K:Nat}{ts:List FE}(h:QRow w a cap ts)(hK:0<K)(hf:∀t,t∈ ts→Fits t.q K):QRow w a cap (ts.map (FE.re K)):=by
 refine⟨⟨by rw[List.length_map];exact h.row.fit,by rw[Qqn];exact h.row.row⟩,fun t ht=>?_⟩;obtain⟨u,hu,rfl⟩:=List.mem_map.1 ht;exact⟨(h.ts u hu).1,hf u hu,hK⟩
structure MOk (w:World) (W K:Nat) (r:MR):Prop where
 row:QRow w r.a r.cap r.ts
 len:r.ts.length=W
 sz:∀t,t∈ r.ts→t.k≤K
theorem MOk.fr{w w':World}{W K:Nat}{r:MR}(h:MOk w W K r)(ho:Fr w w'):MOk w' W K r:=⟨h.row.fr ho,h.len,h.sz⟩
def Oks(w:World)(W K:Nat)(rs:List MR):Prop:=∀r,r∈ rs→MOk w W K r
theorem Oks.fr{w w':World}{W K:Nat}{rs:List MR}(h:Oks w W K rs)(ho:Fr w w'):Oks w' W K rs:=fun r hr=>(h r hr).fr ho
theorem MR.q_beyond{r:MR}{i:Nat}(h:r.ts.length≤i):r.q i=0:=by
 unfold MR.q;rw[List.getD_eq_getElem?_getD,List.getElem?_eq_none (by simpa using h)];rfl
theorem qAt_q(r:MR):qAt r.ts=r.q:=rfl
theorem MOk.made{w:World}{g W K B:Nat}{us:List FE}{r:MR}{f:Nat→Rat→Rat}{v:Vec}(hb:QBlk w g us)(hr:r.ts.length=W)(hm:Made f B r.ts us r.ts.length)(hK:0<K)(hv:∀i,i<W→f i (r.q i)=v i)(hz:∀i,W≤i→v i=0)(hfit:∀i,i<W→Fits (v i) K):
 ∃r':MR,r'.val=.slice (some ⟨g,0,none⟩) W W∧MOk w W K r'∧r'.q=v:=by
 have hul:us.length=W:=by rw[hm.1];exact hr
 have hat:∀i u,us[i]?=some u→u.q=v i:=fun i u hu=>by
  have hi:i<W:=by rw[←hul];exact(List.getElem?_eq_some_iff.1 hu).1
  obtain⟨e,he⟩:∃e,r.ts[i]?=some e:=⟨r.ts[i]'(by omega),List.getElem?_eq_getElem (by omega)⟩;obtain⟨u',h1,h2,_⟩:=hm.2 i e (by omega) he;obtain rfl:=Option.some.inj (hu.symm.trans h1);rw[h2,←MR.q_at he];exact hv i hi
 refine⟨⟨some ⟨g,0,none⟩,us.length,us.map (FE.re K)⟩,?_,⟨?_,by simp[hul],fun t ht=>?_⟩,?_⟩
 · simp[MR.val,hul]
 ·
  refine hb.row.re hK fun t ht=>?_
  obtain⟨i,hi⟩:=List.mem_iff_getElem?.1 ht;rw[hat i t hi];exact hfit i (by rw[←hul];exact(List.getElem?_eq_some_iff.1 hi).1)
 · obtain⟨u,_,rfl⟩:=List.mem_map.1 ht
   exact Nat.le_refl _
 ·
  funext i;rcases Nat.lt_or_ge i W with h|h
  ·
   obtain⟨u,hu⟩:∃u,us[i]?=some u:=⟨us[i]'(by omega),List.getElem?_eq_getElem (by omega)⟩;rw[MR.q_at (e:=FE.re K u) (by simp[hu])];exact hat i u hu
  · rw[MR.q_beyond (by simpa [hul] using h),hz i h]
end Go.Proofs.YtbbkamnfjejceaaGreatDoor
