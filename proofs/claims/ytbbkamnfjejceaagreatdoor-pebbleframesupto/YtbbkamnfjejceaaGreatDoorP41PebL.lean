/- counts of edges among points, plainly: which edges hang together; what the kept ones of any order have in common; what pebbles tell of it. -/
namespace Go.Proofs.YtbbkamnfjejceaaGreatDoor.Peb
set_option linter.unusedVariables false
set_option linter.unusedSimpArgs false
abbrev Edge:=Nat × Nat
abbrev PSet:=Nat→Bool
def sumTo:Nat→(Nat→Nat)→Nat
 |0,_=>0
 |n+1,f=>sumTo n f+f n
theorem Qco:∀(n:Nat) (f g:Nat→Nat),(∀i,i<n→f i=g i)→sumTo n f=sumTo n g
 |0,_,_,_=>rfl
 |n+1,f,g,h=>by
  simp only[sumTo];rw[Qco n f g (fun i hi=>h i (by omega)),h n (by omega)]
theorem Qd7:∀(n:Nat) (f g:Nat→Nat),(∀i,i<n→f i≤g i)→sumTo n f≤sumTo n g
 |0,_,_,_=>Nat.le_refl _
 |n+1,f,g,h=>by
  have:=Qd7 n f g (fun i hi=>h i (by omega));have:=h n (by omega);simp only[sumTo];omega
theorem Qd8:∀(n:Nat) (f g:Nat→Nat),sumTo n (fun i=>f i+g i)=sumTo n f+sumTo n g
 |0,_,_=>rfl
 |n+1,f,g=>by
  have:=Qd8 n f g;simp only[sumTo];omega
theorem Qd9(c:Nat):∀(n:Nat) (f:Nat→Nat),sumTo n (fun i=>c*f i)=c*sumTo n f
 |0,_=>rfl
 |n+1,f=>by
  have:=Qd9 c n f;simp only[sumTo,Nat.mul_add];omega
theorem Qav:∀(n:Nat) (f g:Nat→Nat) (p:Nat),p<n→(∀i,i<n→i≠p→g i=f i)→sumTo n g+f p=sumTo n f+g p
 |0,_,_,_,hp,_=>by omega
 |n+1,f,g,p,hp,h=>by
  simp only[sumTo];by_cases hn:p=n
  ·
   subst hn;have:=Qco p g f (fun i hi=>h i (by omega) (by omega));omega
  ·
   have:=Qav n f g p (by omega) (fun i hi hne=>h i (by omega) hne);have:=h n (by omega) (fun e=>hn e.symm);omega
theorem Qm1(n:Nat)(f:Nat→Nat)(p:Nat)(hp:p<n):f p≤sumTo n f:=by
 have:=Qav n f (fun i=>if i=p then 0 else f i) p hp (fun i _ hne=>by simp[hne]);simp at this;omega
theorem Qg7(n:Nat)(f:Nat→Nat)(p q:Nat)(hp:p<n)(hq:q<n)(hpq:p≠q):f p+f q≤sumTo n f:=by
 have h1:=Qav n f (fun i=>if i=p then 0 else f i) p hp (fun i _ hne=>by simp[hne]);have h2:=Qm1 n (fun i=>if i=p then 0 else f i) q hq;simp[Ne.symm hpq] at h1 h2;omega
theorem Qb0(n:Nat)(f:Nat→Nat)(h:∀i,i<n→f i=0):sumTo n f=0:=by
 induction n with
 |zero=>rfl
 |succ n ih=>simp only[sumTo];rw[ih (fun i hi=>h i (by omega)),h n (by omega)]
theorem Qg8(n:Nat)(f:Nat→Nat)(p q:Nat)(hpq:p≠q)(h:∀i,i<n→i≠p→i≠q→f i=0):sumTo n f≤f p+f q:=by
 induction n with
 |zero=>simp[sumTo]
 |succ n ih=>
  simp only[sumTo];by_cases h1:n=p
  ·
   subst h1;by_cases hq:q<n
   ·
    have:=Qav n f (fun i=>if i=q then 0 else f i) q hq (fun i _ hne=>by simp[hne]);rw[Qb0 n (fun i=>if i=q then 0 else f i) (fun i hi=>by
     by_cases e:i=q
     · simp[e]
     · simp[e];exact h i (by omega) (by omega) e)] at this
    simp at this;omega
   · rw[Qb0 n f (fun i hi=>h i (by omega) (by omega) (by omega))]
     omega
  ·
   by_cases h2:n=q
   ·
    subst h2;by_cases hp:p<n
    ·
     have:=Qav n f (fun i=>if i=p then 0 else f i) p hp (fun i _ hne=>by simp[hne]);rw[Qb0 n (fun i=>if i=p then 0 else f i) (fun i hi=>by
      by_cases e:i=p
      · simp[e]
      · simp[e];exact h i (by omega) e (by omega))] at this
     simp at this;omega
    · rw[Qb0 n f (fun i hi=>h i (by omega) (by omega) (by omega))]
      omega
   · rw[h n (by omega) h1 h2]
     exact ih (fun i hi=>h i (by omega))
def inE(S:PSet)(e:Edge):Bool:=S e.1 && S e.2
def cntE(S:PSet)(E:List Edge):Nat:=E.countP (inE S)
def sz(n:Nat)(S:PSet):Nat:=sumTo n (fun p=>(S p).toNat)
def Sparse(n:Nat)(E:List Edge):Prop:=∀S:PSet,2≤sz n S→cntE S E+3≤2*sz n S
def GraphE(n:Nat)(E:List Edge):Prop:=∀e∈ E,e.1<n∧e.2<n∧e.1≠e.2
def Tight(n:Nat)(A:List Edge)(S:PSet):Prop:=2≤sz n S∧2*sz n S≤cntE S A+3
def Cover(n:Nat)(A E:List Edge):Prop:=∀e∈ E,∃S:PSet,inE S e=true∧Tight n A S
def uni(S T:PSet):PSet:=fun p=>S p || T p
theorem Qaw(S:PSet)(e:Edge)(E:List Edge):cntE S (e :: E)=cntE S E+(inE S e).toNat:=by
 unfold cntE;rw[List.countP_cons];cases inE S e<;>simp
theorem Qg9(S:PSet):cntE S []=0:=rfl
theorem Qm2{S:PSet}{E F:List Edge}(h:E.Perm F):cntE S E=cntE S F:=by
 unfold cntE;exact h.countP_eq _
theorem Sparse.perm{n:Nat}{E F:List Edge}(h:Sparse n E)(hp:E.Perm F):Sparse n F:=fun S h2=>by
 rw[←Qm2 hp];exact h S h2
theorem two_le_sz{n:Nat}{S:PSet}{a b:Nat}(ha:a<n)(hb:b<n)(hab:a≠b)(hSa:S a=true)(hSb:S b=true):2≤sz n S:=by
 have:=Qg7 n (fun p=>(S p).toNat) a b ha hb hab;simp only[hSa,hSb] at this;exact this
def keptR:List Edge→List Bool→List Edge
 |e :: E,b :: l=>if b then e :: keptR E l else keptR E l
 |_,_=>[]
def RunR(n:Nat):List Edge→List Bool→Prop
 | [],[]=>True
 |e :: E,b :: l=>RunR n E l∧(b=true↔Sparse n (e :: keptR E l))
 |_,_=>False
theorem Tight.more{n:Nat}{A:List Edge}{S:PSet}(h:Tight n A S)(e:Edge):Tight n (e :: A) S:=
 ⟨h.1,by rw[Qaw];have:=h.2;omega⟩
def pair(a b:Nat):PSet:=fun p=>decide (p=a) || decide (p=b)
theorem sz_pair(n a b:Nat)(hab:a≠b):sz n (pair a b)≤2:=by
 have:=Qg8 n (fun p=>(pair a b p).toNat) a b hab (fun i _ h1 h2=>by simp[pair,h1,h2]);simp[pair] at this;exact this
theorem Qm3(n:Nat):Sparse n []:=fun S h=>by rw[Qg9];omega
theorem Qha{n:Nat}:∀{E:List Edge} {l:List Bool},GraphE n E→RunR n E l→
 Sparse n (keptR E l)∧Cover n (keptR E l) E∧GraphE n (keptR E l)∧(∀e∈ keptR E l,e∈ E)∧l.length=E.length∧(keptR E l).length=l.countP id
 | [],[],_,_=>⟨Qm3 n,(by intro e he;cases he),(by intro e he;cases he),(by simp[keptR]),rfl,rfl⟩
 | [],_ :: _,_,h=>h.elim
 |_ :: _,[],_,h=>h.elim
 |e :: E,b :: l,g,h=>by
  obtain⟨hr,hb⟩:=h;obtain⟨k1,k2,k3,k4,k5,k6⟩:=Qha (fun d hd=>g d (List.mem_cons_of_mem _ hd)) hr;obtain⟨g1,g2,g3⟩:=g e List.mem_cons_self;cases b with
  |true=>
   have hs:=hb.1 rfl;simp only[keptR,if_true];refine⟨hs,fun d hd=>?_,fun d hd=>?_,fun d hd=>?_,by simp[k5],by simp[k6]⟩
   ·
    rcases List.mem_cons.1 hd with rfl|hd
    ·
     refine⟨pair d.1 d.2,by simp[inE,pair],two_le_sz g1 g2 g3 (by simp[pair]) (by simp[pair]),?_⟩;rw[Qaw];have:=sz_pair n d.1 d.2 g3;have h5:inE (pair d.1 d.2) d=true:=by simp[inE,pair]
     rw[h5];simp;omega
    · obtain⟨S,s1,s2⟩:=k2 d hd
      exact⟨S,s1,s2.more e⟩
   ·
    rcases List.mem_cons.1 hd with rfl|hd
    · exact⟨g1,g2,g3⟩
    · exact k3 d hd
   ·
    rcases List.mem_cons.1 hd with rfl|hd
    · exact List.mem_cons_self
    · exact List.mem_cons_of_mem _ (k4 d hd)
  |false=>
   have hs:¬Sparse n (e :: keptR E l):=fun h=>by have:=hb.2 h;cases this
   simp only[keptR,Bool.false_eq_true,if_false];refine⟨k1,fun d hd=>?_,k3,fun d hd=>List.mem_cons_of_mem _ (k4 d hd),by simp[k5],by simp[k6]⟩;rcases List.mem_cons.1 hd with rfl|hd
   ·
    obtain⟨S,hS⟩:=Classical.not_forall.1 hs;obtain⟨s2,s3⟩:=Classical.not_imp.1 hS;have s4:=k1 S s2;rw[Qaw] at s3;refine⟨S,?_,s2,?_⟩
    ·
     cases h6:inE S d with
     |true=>rfl
     |false=>rw[h6] at s3;simp at s3;omega
    · have:(inE S d).toNat≤1:=Bool.toNat_le _
      omega
   · exact k2 d hd
theorem Qcp{n:Nat}:∀{E:List Edge} {l l':List Bool},RunR n E l→RunR n E l'→l=l'
 | [],[],[],_,_=>rfl
 | [],[],_ :: _,_,h=>h.elim
 | [],_ :: _,_,h,_=>h.elim
 |_ :: _,[],_,h,_=>h.elim
 |_ :: _,_ :: _,[],_,h=>h.elim
 |e :: E,b :: l,b' :: l',⟨h1,h2⟩,⟨h3,h4⟩=>by
  obtain rfl:=Qcp h1 h3;have:b=b':=by
   cases b<;>cases b'<;>simp_all
  rw[this]
theorem Sparse.less{n:Nat}{e:Edge}{E:List Edge}(h:Sparse n (e :: E)):Sparse n E:=fun S h2=>by
 have:=h S h2;rw[Qaw] at this;omega
theorem run_all{n:Nat}:∀{E:List Edge} {l:List Bool},RunR n E l→Sparse n E→keptR E l=E∧l.countP id=E.length∧l.length=E.length
 | [],[],_,_=>⟨rfl,rfl,rfl⟩
 | [],_ :: _,h,_=>h.elim
 |_ :: _,[],h,_=>h.elim
 |e :: E,b :: l,⟨h1,h2⟩,hs=>by
  obtain⟨a,c,d⟩:=run_all h1 hs.less;rw[a] at h2;have:=h2.2 hs;subst this;simp[keptR,a,c,d]
def pay(n:Nat)(paid:Nat→List Nat)(S:PSet):Nat:=sumTo n (fun p=>if S p then (paid p).countP S else 0)
def Board(n:Nat)(loose:Nat→Nat)(paid:Nat→List Nat)(T:List Edge):Prop:=
 (∀p,p<n→loose p+(paid p).length=2)∧(∀S,pay n paid S=cntE S T)∧∀p,p<n→∀q∈ paid p,q<n
theorem Qm4{n:Nat}{loose:Nat→Nat}{paid:Nat→List Nat}{T:List Edge}(h:Board n loose paid T)(S:PSet):
 pay n paid S+sumTo n (fun p=>if S p then loose p else 0)≤2*sz n S:=by
 unfold pay sz;rw[←Qd8,←Qd9];refine Qd7 n _ _ (fun p hp=>?_);have h1:=h.1 p hp;have h2:=List.countP_le_length (p:=S) (l:=paid p);cases S p<;>simp;omega
theorem room{n:Nat}{loose:Nat→Nat}{paid:Nat→List Nat}{T:List Edge}(h:Board n loose paid T)(hT:Sparse n T){e:Edge}
 (h1:e.1<n) (h2:e.2<n) (h3:e.1≠e.2) (h4:4≤loose e.1+loose e.2):Sparse n (e :: T):=by
 intro S hS;rw[Qaw];have hs:=hT S hS;cases he:inE S e with
 |false=>simp;exact hs
 |true=>
  have h5:=Qm4 h S;rw[h.2.1 S] at h5;have h6:=Qg7 n (fun p=>if S p then loose p else 0) e.1 e.2 h1 h2 h3;unfold inE at he;simp only[Bool.and_eq_true] at he;simp only[he.1,he.2,if_true] at h6;simp;omega
theorem stuck{n:Nat}{loose:Nat→Nat}{paid:Nat→List Nat}{T:List Edge}(h:Board n loose paid T){e:Edge}
 (h1:e.1<n) (h2:e.2<n) (h3:e.1≠e.2) (h4:loose e.1+loose e.2<4) {S:PSet} (hS1:S e.1=true) (hS2:S e.2=true)
 (hc:∀p,p<n→S p=true→(p≠e.1→p≠e.2→loose p=0)∧∀q∈ paid p,S q=true):¬Sparse n (e :: T):=by
 intro hs;have h5:=hs S (two_le_sz h1 h2 h3 hS1 hS2);have he:inE S e=true:=by simp[inE,hS1,hS2]
 rw[Qaw,he,←h.2.1 S] at h5;have h6:pay n paid S+sumTo n (fun p=>if S p then loose p else 0)=2*sz n S:=by
  unfold pay sz;rw[←Qd8,←Qd9];refine Qco n _ _ (fun p hp=>?_);have a:=h.1 p hp;cases hp':S p with
  |false=>simp
  |true=>
   have b:(paid p).countP S=(paid p).length:=List.countP_eq_length.2 (fun q hq=>(hc p hp hp').2 q hq);simp;omega
 have h7:=Qg8 n (fun p=>if S p then loose p else 0) e.1 e.2 h3 (fun i hi a b=>by
  cases hp':S i with
  |false=>simp
  |true=>simp;exact(hc i hi hp').1 a b)
 simp only[hS1,hS2,if_true] at h7;simp at h5;omega
def Shut(loose:Nat→Nat)(paid:Nat→List Nat)(seen seen':PSet):Prop:=
 (∀r,seen r=true→seen' r=true)∧∀r,seen' r=true→seen r=true∨(loose r=0∧∀q∈ paid r,seen' q=true)
theorem Shut.refl(loose:Nat→Nat)(paid:Nat→List Nat)(seen:PSet):Shut loose paid seen seen:=⟨fun _ h=>h,fun _ h=>Or.inl h⟩
theorem Shut.trans{loose:Nat→Nat}{paid:Nat→List Nat}{s1 s2 s3:PSet}(h:Shut loose paid s1 s2)(k:Shut loose paid s2 s3):Shut loose paid s1 s3:=
 ⟨fun r hr=>k.1 r (h.1 r hr),fun r hr=>by
   rcases k.2 r hr with a|a
   ·
    rcases h.2 r a with b|b
    · exact Or.inl b
    · exact Or.inr ⟨b.1,fun q hq=>k.1 q (b.2 q hq)⟩
   · exact Or.inr a⟩
def putP{α:Type}(f:Nat→α)(p:Nat)(v:α):Nat→α:=fun i=>if i=p then v else f i
theorem Qab{α:Type}(f:Nat→α)(p:Nat)(v:α):putP f p v p=v:=by simp[putP]
theorem Qaa{α:Type}(f:Nat→α){p i:Nat}(v:α)(h:i≠p):putP f p v i=f i:=by simp[putP,h]
theorem Shut.spare{loose:Nat→Nat}{paid:Nat→List Nat}{s s':PSet}{q:Nat}(hl:loose q=0)
 (h:Shut loose paid (putP s q true) s') (hq:∀r∈ paid q,s' r=true):Shut loose paid s s'∧s' q=true:=
 ⟨⟨fun r hr=>h.1 r (by by_cases e:r=q<;>simp[putP,e,hr]),fun r hr=>by
   rcases h.2 r hr with a|a
   ·
    by_cases e:r=q
    · subst e;exact Or.inr ⟨hl,hq⟩
    · rw[Qaa _ _ e] at a;exact Or.inl a
   · exact Or.inr a⟩,h.1 q (Qab _ _ _)⟩
def Gave(n:Nat)(q:Nat)(U:PSet)(loose:Nat→Nat)(paid:Nat→List Nat)(loose':Nat→Nat)(paid':Nat→List Nat):Prop:=
 (∀r,U r=true→loose' r=loose r∧paid' r=paid r)∧
 (∀r,r<n→r≠q→loose' r+(paid' r).length=loose r+(paid r).length)∧
 loose' q+(paid' q).length+1=loose q+(paid q).length∧
 (∀S,pay n paid' S=pay n paid S)∧(∀p,p<n→∀r∈ paid' p,r<n)
theorem Gave.less{n q:Nat}{U V:PSet}{loose loose':Nat→Nat}{paid paid':Nat→List Nat}(h:Gave n q U loose paid loose' paid')(hV:∀r,V r=true→U r=true):Gave n q V loose paid loose' paid':=
 ⟨fun r hr=>h.1 r (hV r hr),h.2⟩
theorem Qm5{n q:Nat}{U:PSet}{loose:Nat→Nat}{paid:Nat→List Nat}(hU:U q=false)(hl:0<loose q)(hp:∀p,p<n→∀r∈ paid p,r<n):
 Gave n q U loose paid (putP loose q (loose q - 1)) paid:=
 ⟨fun r hr=>⟨Qaa _ _ (fun e=>by rw[e,hU] at hr;cases hr),rfl⟩,fun r _ hr=>by rw[Qaa _ _ hr],by rw[Qab];omega,fun _=>rfl,hp⟩
theorem Qhb(S:PSet):∀(l:List Nat) (i:Nat) (q:Nat),l[i]?=some q→(l.eraseIdx i).countP S+(S q).toNat=l.countP S
 | [],_,_,h=>by cases h
 |x :: l,0,q,h=>by
  simp at h;subst h;simp only[List.eraseIdx_cons_zero,List.countP_cons];cases S x<;>simp
 |x :: l,i+1,q,h=>by
  have:=Qhb S l i q (by simpa using h);simp only[List.eraseIdx_cons_succ,List.countP_cons];omega
theorem Qea:∀(l:List Nat) (i:Nat) (q:Nat),l[i]?=some q→(l.eraseIdx i).length+1=l.length
 | [],_,_,h=>by cases h
 |x :: l,0,q,h=>by simp
 |x :: l,i+1,q,h=>by
  have:=Qea l i q (by simpa using h);simp only[List.eraseIdx_cons_succ,List.length_cons];omega
theorem Gave.flip{n p q i:Nat}{U:PSet}{loose loose':Nat→Nat}{paid paid':Nat→List Nat}(h:Gave n q U loose paid loose' paid')
 (hpn:p<n) (hqn:q<n) (hpq:p≠q) (hUp:U p=true) (hUq:U q=false) (hi:(paid p)[i]?=some q):
 Gave n p (putP U p false) loose paid loose' (putP (putP paid' p ((paid' p).eraseIdx i)) q (paid' q++ [p]))∧loose' p=loose p:=by
 obtain⟨h1,h2,h3,h4,h5⟩:=h;obtain⟨u1,u2⟩:=h1 p hUp;have hi':(paid' p)[i]?=some q:=by rw[u2];exact hi
 have hlen:=Qea _ _ _ hi';refine⟨⟨fun r hr=>?_,fun r hr hne=>?_,?_,fun S=>?_,fun r hr s hs=>?_⟩,u1⟩
 ·
  have hrp:r≠p:=fun e=>by rw[e,Qab] at hr;cases hr
  rw[Qaa _ _ hrp] at hr;have hrq:r≠q:=fun e=>by rw[e,hUq] at hr;cases hr
  rw[Qaa _ _ hrq,Qaa _ _ hrp];exact h1 r hr
 ·
  by_cases hrq:r=q
  ·
   subst hrq;rw[Qab];simp;omega
  · rw[Qaa _ _ hrq,Qaa _ _ hne]
    exact h2 r hr hrq
 · rw[Qaa _ _ hpq,Qab,u1,←u2]
   omega
 ·
  rw[←h4 S];unfold pay;have a:=Qav n (fun r=>if S r then (paid' r).countP S else 0) (fun r=>if S r then (putP paid' p ((paid' p).eraseIdx i) r).countP S else 0) p hpn (fun r _ hne=>by simp only[Qaa _ _ hne]);have b:=Qav n (fun r=>if S r then (putP paid' p ((paid' p).eraseIdx i) r).countP S else 0) (fun r=>if S r then (putP (putP paid' p ((paid' p).eraseIdx i)) q (paid' q++ [p]) r).countP S else 0) q hqn (fun r _ hne=>by simp only[Qaa _ _ hne]);have c:=Qhb S _ _ _ hi';simp only[Qab,Qaa _ _ (Ne.symm hpq)] at a b;rw[List.countP_append,List.countP_singleton] at b;cases hp':S p<;>cases hq':S q<;>simp[hp',hq'] at a b c<;>omega
 ·
  by_cases hrq:r=q
  ·
   subst hrq;rw[Qab] at hs;rcases List.mem_append.1 hs with hs|hs
   · exact h5 r hr s hs
   · rw[List.mem_singleton.1 hs];exact hpn
  ·
   rw[Qaa _ _ hrq] at hs;by_cases hrp:r=p
   ·
    subst hrp;rw[Qab] at hs;exact h5 r hr s ((List.eraseIdx_sublist _ _).subset hs)
   · rw[Qaa _ _ hrp] at hs
     exact h5 r hr s hs
theorem Board.fetch{n p:Nat}{U:PSet}{loose loose':Nat→Nat}{paid paid':Nat→List Nat}{T:List Edge}(h:Board n loose paid T)
 (g:Gave n p U loose paid loose' paid'):Board n (putP loose' p (loose' p+1)) paid' T:=by
 obtain⟨h1,h2,h3⟩:=h;obtain⟨g1,g2,g3,g4,g5⟩:=g;refine⟨fun r hr=>?_,fun S=>by rw[g4 S,h2 S],g5⟩;by_cases e:r=p
 ·
  subst e;rw[Qab,←h1 r hr];omega
 · rw[Qaa _ _ e,←h1 r hr]
   exact g2 r hr e
theorem Board.take{n a b:Nat}{loose:Nat→Nat}{paid:Nat→List Nat}{T:List Edge}(h:Board n loose paid T)(ha:a<n)(hb:b<n)(hl:0<loose a):
 Board n (putP loose a (loose a - 1)) (putP paid a (paid a++ [b])) ((a,b) :: T):=by
 obtain⟨h1,h2,h3⟩:=h;refine⟨fun r hr=>?_,fun S=>?_,fun r hr s hs=>?_⟩
 ·
  by_cases e:r=a
  ·
   subst e;rw[Qab,Qab];have:=h1 r hr;simp;omega
  · rw[Qaa _ _ e,Qaa _ _ e]
    exact h1 r hr
 ·
  rw[Qaw,←h2 S];unfold pay;have c:=Qav n (fun r=>if S r then (paid r).countP S else 0) (fun r=>if S r then (putP paid a (paid a++ [b]) r).countP S else 0) a ha (fun r _ hne=>by simp only[Qaa _ _ hne]);simp only[Qab] at c;rw[List.countP_append,List.countP_singleton] at c;unfold inE;cases hp':S a<;>cases hq':S b<;>simp[hp',hq'] at c ⊢ <;>omega
 ·
  by_cases e:r=a
  ·
   subst e;rw[Qab] at hs;rcases List.mem_append.1 hs with hs|hs
   · exact h3 r hr s hs
   · rw[List.mem_singleton.1 hs];exact hb
  · rw[Qaa _ _ e] at hs
    exact h3 r hr s hs
theorem Board.new(n:Nat):Board n (fun _=>2) (fun _=>[]) []:=
 ⟨fun _ _=>rfl,fun S=>by rw[Qg9];exact Qb0 n _ (fun i _=>by simp),fun _ _ q hq=>by cases hq⟩
theorem Qm6{n:Nat}{loose:Nat→Nat}{paid:Nat→List Nat}{T:List Edge}(h:Board n loose paid T){a b:Nat}
 (h1:a<n) (h2:b<n) (h3:a≠b) (h4:loose a+loose b<4) {s1 s2:PSet}
 (k1:Shut loose paid (pair a b) s1) (p1:∀q∈ paid a,s1 q=true) (k2:Shut loose paid (pair b a) s2) (p2:∀q∈ paid b,s2 q=true):¬Sparse n ((a,b) :: T):=by
 refine stuck (e:=(a,b)) (S:=uni s1 s2) h h1 h2 h3 h4 (by simp[uni,k1.1 a (by simp[pair])]) (by simp[uni,k1.1 b (by simp[pair])]) (fun p hp hs=>?_);by_cases ea:p=a
 · subst ea
   exact⟨fun h=>(h rfl).elim,fun q hq=>by simp[uni,p1 q hq]⟩
 ·
  by_cases eb:p=b
  · subst eb
    exact⟨fun _ h=>(h rfl).elim,fun q hq=>by simp[uni,p2 q hq]⟩
  ·
   simp only[uni,Bool.or_eq_true] at hs;rcases hs with hs|hs
   ·
    rcases k1.2 p hs with c|c
    · simp[pair,ea,eb] at c
    · exact⟨fun _ _=>c.1,fun q hq=>by simp[uni,c.2 q hq]⟩
   ·
    rcases k2.2 p hs with c|c
    · simp[pair,ea,eb] at c
    · exact⟨fun _ _=>c.1,fun q hq=>by simp[uni,c.2 q hq]⟩
theorem sz_succ(n:Nat)(S:PSet):sz (n+1) S=sz n S+(S n).toNat:=rfl
theorem Qhc(S:PSet):∀n:Nat,∃m,m<2 ^ n∧∀p,p<n→m.testBit p=S p
 |0=>⟨0,by decide,fun p hp=>by omega⟩
 |n+1=>by
  obtain⟨m,hm,h⟩:=Qhc S n;cases hs:S n with
  |false=>
   refine⟨m,by rw[Nat.pow_succ];omega,fun p hp=>?_⟩;by_cases e:p=n
   · rw[e,hs,Nat.testBit_lt_two_pow hm]
   · exact h p (by omega)
  |true=>
   refine⟨2 ^ n+m,by rw[Nat.pow_succ];omega,fun p hp=>?_⟩;by_cases e:p=n
   · rw[e,hs,Nat.testBit_two_pow_add_eq,Nat.testBit_lt_two_pow hm];rfl
   · rw[Nat.testBit_two_pow_add_gt (by omega)];exact h p (by omega)
theorem Qhd{n:Nat}{S S':PSet}(h:∀p,p<n→S p=S' p):∀(E:List Edge),GraphE n E→cntE S E=cntE S' E
 | [],_=>rfl
 |e :: E,g=>by
  obtain⟨g1,g2,g3⟩:=g e List.mem_cons_self;rw[Qaw,Qaw,Qhd h E (fun d hd=>g d (List.mem_cons_of_mem _ hd))];unfold inE;rw[h _ g1,h _ g2]
theorem Qhe{n:Nat}{S S':PSet}(h:∀p,p<n→S p=S' p):sz n S=sz n S':=
 Qco n _ _ (fun i hi=>by rw[h i hi])
theorem Qm7{n:Nat}{E:List Edge}(g:GraphE n E)(h:∀m,m<2 ^ n→2≤sz n m.testBit→cntE m.testBit E+3≤2*sz n m.testBit):Sparse n E:=by
 intro S hS;obtain⟨m,hm,he⟩:=Qhc S n;have a:=h m hm (by rw[Qhe he];exact hS);rw[Qhe he,Qhd he E g] at a;exact a
end Go.Proofs.YtbbkamnfjejceaaGreatDoor.Peb
