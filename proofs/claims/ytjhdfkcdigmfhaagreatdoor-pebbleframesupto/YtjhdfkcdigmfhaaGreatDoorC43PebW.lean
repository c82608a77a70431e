/- package pebble: the searches. -/
import Derived.Test.YtjhdfkcdigmfhaaGreatDoorChecked
import Derived.WalkKit
import Derived.Below
import Derived.OwnWalk
import Derived.Outline
import Derived.MapKept
import Derived.Maps.AppendAt
import Derived.Deep.OwnRows
import Derived.Deep.RegionLaw
import Derived.Deep.RegionHeld3
import Derived.KernelRfl
import Derived.Deep.DeepFit
import Derived.Deep.DeepCutAuto
import Derived.RegionTactic
namespace Go.Proofs.YtjhdfkcdigmfhaaGreatDoor.Peb
set_option linter.unusedVariables false
set_option linter.unusedSimpArgs false
abbrev Edge:=Nat × Nat
abbrev PSet:=Nat→Bool
def sumTo:Nat→(Nat→Nat)→Nat
 |0,_=>0
 |n+1,f=>sumTo n f+f n
theorem Qco:∀(n:Nat) (f g:Nat→Nat),(∀i,i<n→f i=g i)→sumTo n f=sumTo n g
 |0,_,_,_=>rfl
 |n+1,f,g,h=>by
  simp only[sumTo]
  rw[Qco n f g (fun i hi=>h i (by omega)),h n (by omega)]
theorem Qd3:∀(n:Nat) (f g:Nat→Nat),(∀i,i<n→f i≤g i)→sumTo n f≤sumTo n g
 |0,_,_,_=>Nat.le_refl _
 |n+1,f,g,h=>by
  have:=Qd3 n f g (fun i hi=>h i (by omega))
  have:=h n (by omega)
  simp only[sumTo]
  omega
theorem Qd4:∀(n:Nat) (f g:Nat→Nat),sumTo n (fun i=>f i+g i)=sumTo n f+sumTo n g
 |0,_,_=>rfl
 |n+1,f,g=>by
  have:=Qd4 n f g
  simp only[sumTo]
  omega
theorem Qd5(c:Nat):∀(n:Nat) (f:Nat→Nat),sumTo n (fun i=>c*f i)=c*sumTo n f
 |0,_=>rfl
 |n+1,f=>by
  have:=Qd5 c n f
  simp only[sumTo,Nat.mul_add]
  omega
theorem Qaw:∀(n:Nat) (f g:Nat→Nat) (p:Nat),p<n→(∀i,i<n→i≠p→g i=f i)→sumTo n g+f p=sumTo n f+g p
 |0,_,_,_,hp,_=>by omega
 |n+1,f,g,p,hp,h=>by
  simp only[sumTo]
  by_cases hn:p=n
  ·
   subst hn
   have:=Qco p g f (fun i hi=>h i (by omega) (by omega))
   omega
  ·
   have:=Qaw n f g p (by omega) (fun i hi hne=>h i (by omega) hne)
   have:=h n (by omega) (fun e=>hn e.symm)
   omega
theorem Qm9(n:Nat)(f:Nat→Nat)(p:Nat)(hp:p<n):f p≤sumTo n f:=by
 have:=Qaw n f (fun i=>if i=p then 0 else f i) p hp (fun i _ hne=>by simp[hne])
 simp at this
 omega
theorem Qg8(n:Nat)(f:Nat→Nat)(p q:Nat)(hp:p<n)(hq:q<n)(hpq:p≠q):f p+f q≤sumTo n f:=by
 have h1:=Qaw n f (fun i=>if i=p then 0 else f i) p hp (fun i _ hne=>by simp[hne])
 have h2:=Qm9 n (fun i=>if i=p then 0 else f i) q hq
 simp[Ne.symm hpq] at h1 h2
 omega
theorem Qb0(n:Nat)(f:Nat→Nat)(h:∀i,i<n→f i=0):sumTo n f=0:=by
 induction n with
 |zero=>rfl
 |succ n ih=>simp only[sumTo];rw[ih (fun i hi=>h i (by omega)),h n (by omega)]
theorem Qg9(n:Nat)(f:Nat→Nat)(p q:Nat)(hpq:p≠q)(h:∀i,i<n→i≠p→i≠q→f i=0):sumTo n f≤f p+f q:=by
 induction n with
 |zero=>simp[sumTo]
 |succ n ih=>
  simp only[sumTo]
  by_cases h1:n=p
  ·
   subst h1
   by_cases hq:q<n
   ·
    have:=Qaw n f (fun i=>if i=q then 0 else f i) q hq (fun i _ hne=>by simp[hne])
    rw[Qb0 n (fun i=>if i=q then 0 else f i) (fun i hi=>by
     by_cases e:i=q
     · simp[e]
     · simp[e];exact h i (by omega) (by omega) e)] at this
    simp at this
    omega
   · rw[Qb0 n f (fun i hi=>h i (by omega) (by omega) (by omega))]
     omega
  ·
   by_cases h2:n=q
   ·
    subst h2
    by_cases hp:p<n
    ·
     have:=Qaw n f (fun i=>if i=p then 0 else f i) p hp (fun i _ hne=>by simp[hne])
     rw[Qb0 n (fun i=>if i=p then 0 else f i) (fun i hi=>by
      by_cases e:i=p
      · simp[e]
      · simp[e];exact h i (by omega) e (by omega))] at this
     simp at this
     omega
    · rw[Qb0 n f (fun i hi=>h i (by omega) (by omega) (by omega))]
      omega
   · rw[h n (by omega) h1 h2]
     exact ih (fun i hi=>h i (by omega))
def inE(S:PSet)(e:Edge):Bool:=S e.1 && S e.2
def cntE(S:PSet)(E:List Edge):Nat:=E.countP (inE S)
def sz(n:Nat)(S:PSet):Nat:=sumTo n (fun p=>(S p).toNat)
def Sparse(n:Nat)(E:List Edge):Prop:=∀S:PSet,2≤sz n S→cntE S E+3≤2*sz n S
def GraphE(n:Nat)(E:List Edge):Prop:=∀e∈ E,e.1<n∧e.2<n∧e.1≠e.2
def Tight(n:Nat)(A:List Edge)(S:PSet):Prop:=2≤sz n S∧2*sz n S≤cntE S A+3
def Cover(n:Nat)(A E:List Edge):Prop:=∀e∈ E,∃S:PSet,inE S e=true∧Tight n A S
def uni(S T:PSet):PSet:=fun p=>S p || T p
theorem Qax(S:PSet)(e:Edge)(E:List Edge):cntE S (e :: E)=cntE S E+(inE S e).toNat:=by
 unfold cntE
 rw[List.countP_cons]
 cases inE S e<;>simp
theorem Qha(S:PSet):cntE S []=0:=rfl
theorem Qna{S:PSet}{E F:List Edge}(h:E.Perm F):cntE S E=cntE S F:=by
 unfold cntE;exact h.countP_eq _
theorem Sparse.perm{n:Nat}{E F:List Edge}(h:Sparse n E)(hp:E.Perm F):Sparse n F:=fun S h2=>by
 rw[←Qna hp];exact h S h2
theorem two_le_sz{n:Nat}{S:PSet}{a b:Nat}(ha:a<n)(hb:b<n)(hab:a≠b)(hSa:S a=true)(hSb:S b=true):2≤sz n S:=by
 have:=Qg8 n (fun p=>(S p).toNat) a b ha hb hab
 simp only[hSa,hSb] at this
 exact this
def keptR:List Edge→List Bool→List Edge
 |e :: E,b :: l=>if b then e :: keptR E l else keptR E l
 |_,_=>[]
def RunR(n:Nat):List Edge→List Bool→Prop
 | [],[]=>True
 |e :: E,b :: l=>RunR n E l∧(b=true↔Sparse n (e :: keptR E l))
 |_,_=>False
theorem Tight.more{n:Nat}{A:List Edge}{S:PSet}(h:Tight n A S)(e:Edge):Tight n (e :: A) S:=
 ⟨h.1,by rw[Qax];have:=h.2;omega⟩
def pair(a b:Nat):PSet:=fun p=>decide (p=a) || decide (p=b)
theorem sz_pair(n a b:Nat)(hab:a≠b):sz n (pair a b)≤2:=by
 have:=Qg9 n (fun p=>(pair a b p).toNat) a b hab (fun i _ h1 h2=>by simp[pair,h1,h2])
 simp[pair] at this
 exact this
theorem Qnb(n:Nat):Sparse n []:=fun S h=>by rw[Qha];omega
theorem Qhb{n:Nat}:∀{E:List Edge} {l:List Bool},GraphE n E→RunR n E l→
 Sparse n (keptR E l)∧Cover n (keptR E l) E∧GraphE n (keptR E l)∧(∀e∈ keptR E l,e∈ E)∧l.length=E.length∧(keptR E l).length=l.countP id
 | [],[],_,_=>⟨Qnb n,(by intro e he;cases he),(by intro e he;cases he),(by simp[keptR]),rfl,rfl⟩
 | [],_ :: _,_,h=>h.elim
 |_ :: _,[],_,h=>h.elim
 |e :: E,b :: l,g,h=>by
  obtain⟨hr,hb⟩:=h
  obtain⟨k1,k2,k3,k4,k5,k6⟩:=Qhb (fun d hd=>g d (List.mem_cons_of_mem _ hd)) hr
  obtain⟨g1,g2,g3⟩:=g e List.mem_cons_self
  cases b with
  |true=>
   have hs:=hb.1 rfl
   simp only[keptR,if_true]
   refine⟨hs,fun d hd=>?_,fun d hd=>?_,fun d hd=>?_,by simp[k5],by simp[k6]⟩
   ·
    rcases List.mem_cons.1 hd with rfl|hd
    ·
     refine⟨pair d.1 d.2,by simp[inE,pair],two_le_sz g1 g2 g3 (by simp[pair]) (by simp[pair]),?_⟩
     rw[Qax]
     have:=sz_pair n d.1 d.2 g3
     have h5:inE (pair d.1 d.2) d=true:=by simp[inE,pair]
     rw[h5]
     simp
     omega
    · obtain⟨S,s1,s2⟩:=k2 d hd
      exact⟨S,s1,s2.more e⟩
   ·
    rcases List.mem_cons.1 hd with rfl|hd
    · exact⟨g1,g2,g3⟩
    · exact k3 d hd
   ·
    rcases List.mem_cons.1 hd with rfl|hd
    · exact List.mem_cons_self
    · exact List.mem_cons_of_mem _ (k4 d hd)
  |false=>
   have hs:¬Sparse n (e :: keptR E l):=fun h=>by have:=hb.2 h;cases this
   simp only[keptR,Bool.false_eq_true,if_false]
   refine⟨k1,fun d hd=>?_,k3,fun d hd=>List.mem_cons_of_mem _ (k4 d hd),by simp[k5],by simp[k6]⟩
   rcases List.mem_cons.1 hd with rfl|hd
   ·
    obtain⟨S,hS⟩:=Classical.not_forall.1 hs
    obtain⟨s2,s3⟩:=Classical.not_imp.1 hS
    have s4:=k1 S s2
    rw[Qax] at s3
    refine⟨S,?_,s2,?_⟩
    ·
     cases h6:inE S d with
     |true=>rfl
     |false=>rw[h6] at s3;simp at s3;omega
    · have:(inE S d).toNat≤1:=Bool.toNat_le _
      omega
   · exact k2 d hd
theorem Qcp{n:Nat}:∀{E:List Edge} {l l':List Bool},RunR n E l→RunR n E l'→l=l'
 | [],[],[],_,_=>rfl
 | [],[],_ :: _,_,h=>h.elim
 | [],_ :: _,_,h,_=>h.elim
 |_ :: _,[],_,h,_=>h.elim
 |_ :: _,_ :: _,[],_,h=>h.elim
 |e :: E,b :: l,b' :: l',⟨h1,h2⟩,⟨h3,h4⟩=>by
  obtain rfl:=Qcp h1 h3
  have:b=b':=by
   cases b<;>cases b'<;>simp_all
  rw[this]
theorem Sparse.less{n:Nat}{e:Edge}{E:List Edge}(h:Sparse n (e :: E)):Sparse n E:=fun S h2=>by
 have:=h S h2
 rw[Qax] at this
 omega
theorem run_all{n:Nat}:∀{E:List Edge} {l:List Bool},RunR n E l→Sparse n E→keptR E l=E∧l.countP id=E.length∧l.length=E.length
 | [],[],_,_=>⟨rfl,rfl,rfl⟩
 | [],_ :: _,h,_=>h.elim
 |_ :: _,[],h,_=>h.elim
 |e :: E,b :: l,⟨h1,h2⟩,hs=>by
  obtain⟨a,c,d⟩:=run_all h1 hs.less
  rw[a] at h2
  have:=h2.2 hs
  subst this
  simp[keptR,a,c,d]
def pay(n:Nat)(paid:Nat→List Nat)(S:PSet):Nat:=sumTo n (fun p=>if S p then (paid p).countP S else 0)
def Board(n:Nat)(loose:Nat→Nat)(paid:Nat→List Nat)(T:List Edge):Prop:=
 (∀p,p<n→loose p+(paid p).length=2)∧(∀S,pay n paid S=cntE S T)∧∀p,p<n→∀q∈ paid p,q<n
theorem Qnc{n:Nat}{loose:Nat→Nat}{paid:Nat→List Nat}{T:List Edge}(h:Board n loose paid T)(S:PSet):
 pay n paid S+sumTo n (fun p=>if S p then loose p else 0)≤2*sz n S:=by
 unfold pay sz
 rw[←Qd4,←Qd5]
 refine Qd3 n _ _ (fun p hp=>?_)
 have h1:=h.1 p hp
 have h2:=List.countP_le_length (p:=S) (l:=paid p)
 cases S p<;>simp
 omega
theorem room{n:Nat}{loose:Nat→Nat}{paid:Nat→List Nat}{T:List Edge}(h:Board n loose paid T)(hT:Sparse n T){e:Edge}
 (h1:e.1<n) (h2:e.2<n) (h3:e.1≠e.2) (h4:4≤loose e.1+loose e.2):Sparse n (e :: T):=by
 intro S hS
 rw[Qax]
 have hs:=hT S hS
 cases he:inE S e with
 |false=>simp;exact hs
 |true=>
  have h5:=Qnc h S
  rw[h.2.1 S] at h5
  have h6:=Qg8 n (fun p=>if S p then loose p else 0) e.1 e.2 h1 h2 h3
  unfold inE at he
  simp only[Bool.and_eq_true] at he
  simp only[he.1,he.2,if_true] at h6
  simp
  omega
theorem stuck{n:Nat}{loose:Nat→Nat}{paid:Nat→List Nat}{T:List Edge}(h:Board n loose paid T){e:Edge}
 (h1:e.1<n) (h2:e.2<n) (h3:e.1≠e.2) (h4:loose e.1+loose e.2<4) {S:PSet} (hS1:S e.1=true) (hS2:S e.2=true)
 (hc:∀p,p<n→S p=true→(p≠e.1→p≠e.2→loose p=0)∧∀q∈ paid p,S q=true):¬Sparse n (e :: T):=by
 intro hs
 have h5:=hs S (two_le_sz h1 h2 h3 hS1 hS2)
 have he:inE S e=true:=by simp[inE,hS1,hS2]
 rw[Qax,he,←h.2.1 S] at h5
 have h6:pay n paid S+sumTo n (fun p=>if S p then loose p else 0)=2*sz n S:=by
  unfold pay sz
  rw[←Qd4,←Qd5]
  refine Qco n _ _ (fun p hp=>?_)
  have a:=h.1 p hp
  cases hp':S p with
  |false=>simp
  |true=>
   have b:(paid p).countP S=(paid p).length:=List.countP_eq_length.2 (fun q hq=>(hc p hp hp').2 q hq)
   simp
   omega
 have h7:=Qg9 n (fun p=>if S p then loose p else 0) e.1 e.2 h3 (fun i hi a b=>by
  cases hp':S i with
  |false=>simp
  |true=>simp;exact(hc i hi hp').1 a b)
 simp only[hS1,hS2,if_true] at h7
 simp at h5
 omega
def Shut(loose:Nat→Nat)(paid:Nat→List Nat)(seen seen':PSet):Prop:=
 (∀r,seen r=true→seen' r=true)∧∀r,seen' r=true→seen r=true∨(loose r=0∧∀q∈ paid r,seen' q=true)
theorem Shut.refl(loose:Nat→Nat)(paid:Nat→List Nat)(seen:PSet):Shut loose paid seen seen:=⟨fun _ h=>h,fun _ h=>Or.inl h⟩
theorem Shut.trans{loose:Nat→Nat}{paid:Nat→List Nat}{s1 s2 s3:PSet}(h:Shut loose paid s1 s2)(k:Shut loose paid s2 s3):Shut loose paid s1 s3:=
 ⟨fun r hr=>k.1 r (h.1 r hr),fun r hr=>by
   rcases k.2 r hr with a|a
   ·
    rcases h.2 r a with b|b
    · exact Or.inl b
    · exact Or.inr ⟨b.1,fun q hq=>k.1 q (b.2 q hq)⟩
   · exact Or.inr a⟩
def putP{α:Type}(f:Nat→α)(p:Nat)(v:α):Nat→α:=fun i=>if i=p then v else f i
theorem Qab{α:Type}(f:Nat→α)(p:Nat)(v:α):putP f p v p=v:=by simp[putP]
theorem Qaa{α:Type}(f:Nat→α){p i:Nat}(v:α)(h:i≠p):putP f p v i=f i:=by simp[putP,h]
theorem Shut.spare{loose:Nat→Nat}{paid:Nat→List Nat}{s s':PSet}{q:Nat}(hl:loose q=0)
 (h:Shut loose paid (putP s q true) s') (hq:∀r∈ paid q,s' r=true):Shut loose paid s s'∧s' q=true:=
 ⟨⟨fun r hr=>h.1 r (by by_cases e:r=q<;>simp[putP,e,hr]),fun r hr=>by
   rcases h.2 r hr with a|a
   ·
    by_cases e:r=q
    · subst e;exact Or.inr ⟨hl,hq⟩
    · rw[Qaa _ _ e] at a;exact Or.inl a
   · exact Or.inr a⟩,h.1 q (Qab _ _ _)⟩
def Gave(n:Nat)(q:Nat)(U:PSet)(loose:Nat→Nat)(paid:Nat→List Nat)(loose':Nat→Nat)(paid':Nat→List Nat):Prop:=
 (∀r,U r=true→loose' r=loose r∧paid' r=paid r)∧
 (∀r,r<n→r≠q→loose' r+(paid' r).length=loose r+(paid r).length)∧
 loose' q+(paid' q).length+1=loose q+(paid q).length∧
 (∀S,pay n paid' S=pay n paid S)∧(∀p,p<n→∀r∈ paid' p,r<n)
theorem Gave.less{n q:Nat}{U V:PSet}{loose loose':Nat→Nat}{paid paid':Nat→List Nat}(h:Gave n q U loose paid loose' paid')(hV:∀r,V r=true→U r=true):Gave n q V loose paid loose' paid':=
 ⟨fun r hr=>h.1 r (hV r hr),h.2⟩
theorem Qnd{n q:Nat}{U:PSet}{loose:Nat→Nat}{paid:Nat→List Nat}(hU:U q=false)(hl:0<loose q)(hp:∀p,p<n→∀r∈ paid p,r<n):
 Gave n q U loose paid (putP loose q (loose q - 1)) paid:=
 ⟨fun r hr=>⟨Qaa _ _ (fun e=>by rw[e,hU] at hr;cases hr),rfl⟩,fun r _ hr=>by rw[Qaa _ _ hr],by rw[Qab];omega,fun _=>rfl,hp⟩
theorem Qhc(S:PSet):∀(l:List Nat) (i:Nat) (q:Nat),l[i]?=some q→(l.eraseIdx i).countP S+(S q).toNat=l.countP S
 | [],_,_,h=>by cases h
 |x :: l,0,q,h=>by
  simp at h
  subst h
  simp only[List.eraseIdx_cons_zero,List.countP_cons]
  cases S x<;>simp
 |x :: l,i+1,q,h=>by
  have:=Qhc S l i q (by simpa using h)
  simp only[List.eraseIdx_cons_succ,List.countP_cons]
  omega
theorem Qd6:∀(l:List Nat) (i:Nat) (q:Nat),l[i]?=some q→(l.eraseIdx i).length+1=l.length
 | [],_,_,h=>by cases h
 |x :: l,0,q,h=>by simp
 |x :: l,i+1,q,h=>by
  have:=Qd6 l i q (by simpa using h)
  simp only[List.eraseIdx_cons_succ,List.length_cons]
  omega
theorem Gave.flip{n p q i:Nat}{U:PSet}{loose loose':Nat→Nat}{paid paid':Nat→List Nat}(h:Gave n q U loose paid loose' paid')
 (hpn:p<n) (hqn:q<n) (hpq:p≠q) (hUp:U p=true) (hUq:U q=false) (hi:(paid p)[i]?=some q):
 Gave n p (putP U p false) loose paid loose' (putP (putP paid' p ((paid' p).eraseIdx i)) q (paid' q++ [p]))∧loose' p=loose p:=by
 obtain⟨h1,h2,h3,h4,h5⟩:=h
 obtain⟨u1,u2⟩:=h1 p hUp
 have hi':(paid' p)[i]?=some q:=by rw[u2];exact hi
 have hlen:=Qd6 _ _ _ hi'
 refine⟨⟨fun r hr=>?_,fun r hr hne=>?_,?_,fun S=>?_,fun r hr s hs=>?_⟩,u1⟩
 ·
  have hrp:r≠p:=fun e=>by rw[e,Qab] at hr;cases hr
  rw[Qaa _ _ hrp] at hr
  have hrq:r≠q:=fun e=>by rw[e,hUq] at hr;cases hr
  rw[Qaa _ _ hrq,Qaa _ _ hrp]
  exact h1 r hr
 ·
  by_cases hrq:r=q
  ·
   subst hrq
   rw[Qab]
   simp
   omega
  · rw[Qaa _ _ hrq,Qaa _ _ hne]
    exact h2 r hr hrq
 · rw[Qaa _ _ hpq,Qab,u1,←u2]
   omega
 ·
  rw[←h4 S]
  unfold pay
  have a:=Qaw n (fun r=>if S r then (paid' r).countP S else 0) (fun r=>if S r then (putP paid' p ((paid' p).eraseIdx i) r).countP S else 0) p hpn (fun r _ hne=>by simp only[Qaa _ _ hne])
  have b:=Qaw n (fun r=>if S r then (putP paid' p ((paid' p).eraseIdx i) r).countP S else 0) (fun r=>if S r then (putP (putP paid' p ((paid' p).eraseIdx i)) q (paid' q++ [p]) r).countP S else 0) q hqn (fun r _ hne=>by simp only[Qaa _ _ hne])
  have c:=Qhc S _ _ _ hi'
  simp only[Qab,Qaa _ _ (Ne.symm hpq)] at a b
  rw[List.countP_append,List.countP_singleton] at b
  cases hp':S p<;>cases hq':S q<;>simp[hp',hq'] at a b c<;>omega
 ·
  by_cases hrq:r=q
  ·
   subst hrq
   rw[Qab] at hs
   rcases List.mem_append.1 hs with hs|hs
   · exact h5 r hr s hs
   · rw[List.mem_singleton.1 hs];exact hpn
  ·
   rw[Qaa _ _ hrq] at hs
   by_cases hrp:r=p
   ·
    subst hrp
    rw[Qab] at hs
    exact h5 r hr s ((List.eraseIdx_sublist _ _).subset hs)
   · rw[Qaa _ _ hrp] at hs
     exact h5 r hr s hs
theorem Board.fetch{n p:Nat}{U:PSet}{loose loose':Nat→Nat}{paid paid':Nat→List Nat}{T:List Edge}(h:Board n loose paid T)
 (g:Gave n p U loose paid loose' paid'):Board n (putP loose' p (loose' p+1)) paid' T:=by
 obtain⟨h1,h2,h3⟩:=h
 obtain⟨g1,g2,g3,g4,g5⟩:=g
 refine⟨fun r hr=>?_,fun S=>by rw[g4 S,h2 S],g5⟩
 by_cases e:r=p
 ·
  subst e
  rw[Qab,←h1 r hr]
  omega
 · rw[Qaa _ _ e,←h1 r hr]
   exact g2 r hr e
theorem Board.take{n a b:Nat}{loose:Nat→Nat}{paid:Nat→List Nat}{T:List Edge}(h:Board n loose paid T)(ha:a<n)(hb:b<n)(hl:0<loose a):
 Board n (putP loose a (loose a - 1)) (putP paid a (paid a++ [b])) ((a,b) :: T):=by
 obtain⟨h1,h2,h3⟩:=h
 refine⟨fun r hr=>?_,fun S=>?_,fun r hr s hs=>?_⟩
 ·
  by_cases e:r=a
  ·
   subst e
   rw[Qab,Qab]
   have:=h1 r hr
   simp
   omega
  · rw[Qaa _ _ e,Qaa _ _ e]
    exact h1 r hr
 ·
  rw[Qax,←h2 S]
  unfold pay
  have c:=Qaw n (fun r=>if S r then (paid r).countP S else 0) (fun r=>if S r then (putP paid a (paid a++ [b]) r).countP S else 0) a ha (fun r _ hne=>by simp only[Qaa _ _ hne])
  simp only[Qab] at c
  rw[List.countP_append,List.countP_singleton] at c
  unfold inE
  cases hp':S a<;>cases hq':S b<;>simp[hp',hq'] at c ⊢ <;>omega
 ·
  by_cases e:r=a
  ·
   subst e
   rw[Qab] at hs
   rcases List.mem_append.1 hs with hs|hs
   · exact h3 r hr s hs
   · rw[List.mem_singleton.1 hs];exact hb
  · rw[Qaa _ _ e] at hs
    exact h3 r hr s hs
theorem Board.new(n:Nat):Board n (fun _=>2) (fun _=>[]) []:=
 ⟨fun _ _=>rfl,fun S=>by rw[Qha];exact Qb0 n _ (fun i _=>by simp),fun _ _ q hq=>by cases hq⟩
theorem Qne{n:Nat}{loose:Nat→Nat}{paid:Nat→List Nat}{T:List Edge}(h:Board n loose paid T){a b:Nat}
 (h1:a<n) (h2:b<n) (h3:a≠b) (h4:loose a+loose b<4) {s1 s2:PSet}
 (k1:Shut loose paid (pair a b) s1) (p1:∀q∈ paid a,s1 q=true) (k2:Shut loose paid (pair b a) s2) (p2:∀q∈ paid b,s2 q=true):¬Sparse n ((a,b) :: T):=by
 refine stuck (e:=(a,b)) (S:=uni s1 s2) h h1 h2 h3 h4 (by simp[uni,k1.1 a (by simp[pair])]) (by simp[uni,k1.1 b (by simp[pair])]) (fun p hp hs=>?_)
 by_cases ea:p=a
 · subst ea
   exact⟨fun h=>(h rfl).elim,fun q hq=>by simp[uni,p1 q hq]⟩
 ·
  by_cases eb:p=b
  · subst eb
    exact⟨fun _ h=>(h rfl).elim,fun q hq=>by simp[uni,p2 q hq]⟩
  ·
   simp only[uni,Bool.or_eq_true] at hs
   rcases hs with hs|hs
   ·
    rcases k1.2 p hs with c|c
    · simp[pair,ea,eb] at c
    · exact⟨fun _ _=>c.1,fun q hq=>by simp[uni,c.2 q hq]⟩
   ·
    rcases k2.2 p hs with c|c
    · simp[pair,ea,eb] at c
    · exact⟨fun _ _=>c.1,fun q hq=>by simp[uni,c.2 q hq]⟩
theorem sz_succ(n:Nat)(S:PSet):sz (n+1) S=sz n S+(S n).toNat:=rfl
theorem Qhd(S:PSet):∀n:Nat,∃m,m<2 ^ n∧∀p,p<n→m.testBit p=S p
 |0=>⟨0,by decide,fun p hp=>by omega⟩
 |n+1=>by
  obtain⟨m,hm,h⟩:=Qhd S n
  cases hs:S n with
  |false=>
   refine⟨m,by rw[Nat.pow_succ];omega,fun p hp=>?_⟩
   by_cases e:p=n
   · rw[e,hs,Nat.testBit_lt_two_pow hm]
   · exact h p (by omega)
  |true=>
   refine⟨2 ^ n+m,by rw[Nat.pow_succ];omega,fun p hp=>?_⟩
   by_cases e:p=n
   · rw[e,hs,Nat.testBit_two_pow_add_eq,Nat.testBit_lt_two_pow hm];rfl
   · rw[Nat.testBit_two_pow_add_gt (by omega)];exact h p (by omega)
theorem Qhe{n:Nat}{S S':PSet}(h:∀p,p<n→S p=S' p):∀(E:List Edge),GraphE n E→cntE S E=cntE S' E
 | [],_=>rfl
 |e :: E,g=>by
  obtain⟨g1,g2,g3⟩:=g e List.mem_cons_self
  rw[Qax,Qax,Qhe h E (fun d hd=>g d (List.mem_cons_of_mem _ hd))]
  unfold inE
  rw[h _ g1,h _ g2]
theorem Qhf{n:Nat}{S S':PSet}(h:∀p,p<n→S p=S' p):sz n S=sz n S':=
 Qco n _ _ (fun i hi=>by rw[h i hi])
theorem Qnf{n:Nat}{E:List Edge}(g:GraphE n E)(h:∀m,m<2 ^ n→2≤sz n m.testBit→cntE m.testBit E+3≤2*sz n m.testBit):Sparse n E:=by
 intro S hS
 obtain⟨m,hm,he⟩:=Qhd S n
 have a:=h m hm (by rw[Qhf he];exact hS)
 rw[Qhf he,Qhe he E g] at a
 exact a
end Go.Proofs.YtjhdfkcdigmfhaaGreatDoor.Peb
namespace Go.Proofs.YtjhdfkcdigmfhaaGreatDoor.Peb
open Go.RowKit Go.MapKept
set_option linter.unusedVariables false
set_option linter.unusedSimpArgs false
theorem Hi{p:Prop}(h:p):Hid p:=h
def SB(w:World)(b:Nat)(t:TypeId)(C:Array Value):Prop:=w.heap[b]?=some (.cells C t (0,0))
theorem SB.lt{w:World}{b:Nat}{t:TypeId}{C:Array Value}(h:SB w b t C):b<w.heap.size:=(Array.getElem?_eq_some_iff.1 h).1
theorem SB.cell{w:World}{b:Nat}{t:TypeId}{C:Array Value}(h:SB w b t C)(i:Nat):w.cell? ⟨b,i,none⟩=C[i]?:=by
 unfold SB at h
 simp[World.cell?,h]
theorem SB.free{w:World}{b:Nat}{t:TypeId}{C:Array Value}(h:SB w b t C)(i:Nat):w.frozen? ⟨b,i,none⟩=false:=by
 unfold SB at h
 simp[World.frozen?,h]
theorem SB.set{w:World}{b:Nat}{t:TypeId}{C:Array Value}(h:SB w b t C)(i:Nat)(v:Value):SB (w.setCell ⟨b,i,none⟩ v) b t (C.setIfInBounds i v):=by
 unfold SB at h ⊢
 simp[World.setCell,Array.getElem?_modify,h]
theorem SB.keep{w w':World}{b:Nat}{t:TypeId}{C:Array Value}(h:SB w b t C)(hk:w'.heap[b]?=w.heap[b]?):SB w' b t C:=by
 unfold SB at h ⊢
 rw[hk];exact h
theorem SB.new(w:World)(t:TypeId)(C:Array Value):SB (w.alloc (.cells C t)) w.heap.size t C:=by
 show (w.heap.push _)[w.heap.size]?=_
 simp
theorem Qb1(w:World)(o:Obj){b:Nat}(h:b<w.heap.size):(w.alloc o).heap[b]?=w.heap[b]?:=Below.heap_alloc _ _ _ h
theorem SB.alloc{w:World}{b:Nat}{t:TypeId}{C:Array Value}(h:SB w b t C)(o:Obj):SB (w.alloc o) b t C:=h.keep (Qb1 w o h.lt)
theorem SB.below{w w':World}{b B:Nat}{t:TypeId}{C:Array Value}(h:SB w b t C)(hb:Below B w w')(hB:b<B):SB w' b t C:=h.keep (hb.block b hB)
theorem Below.new2(w:World)(o1 o2:Obj):Below w.heap.size w ((w.alloc o1).alloc o2):=(Below.refl _ _).alloc (Nat.le_refl _) _ |>.alloc (by rw[World.size_alloc];omega) _
theorem map_other{w:World}{r b:Nat}{o:Obj}(h:b≠r):({ w with heap:=w.heap.setIfInBounds r o }:World).heap[b]?=w.heap[b]?:=by
 simp[Array.getElem?_setIfInBounds,h.symm]
theorem map_same{w:World}{r:Nat}{o:Obj}(h:r<w.heap.size):({ w with heap:=w.heap.setIfInBounds r o }:World).heap[r]?=some o:=by
 simp[Array.getElem?_setIfInBounds,h]
theorem add_at(b off j:Nat):Addr.add ⟨b,off,none⟩ j=⟨b,off+j,none⟩:=by
 unfold Addr.add
 by_cases hj:j=0<;>simp[hj]
def kpT(t:TypeId):Bool:=t == 4 || t == 120
structure Kp (B:Nat) (w w':World):Prop where
 below:Below B w w'
 bools:∀(b:Nat) (C:Array Value) (t:TypeId),kpT t=true→w.heap[b]?=some (Obj.cells C t (0,0))→w'.heap[b]?=w.heap[b]?
theorem Kp.refl(B:Nat)(w:World):Kp B w w:=⟨Below.refl _ _,fun _ _ _ _ _=>rfl⟩
theorem Kp.trans{B:Nat}{u v w:World}(h:Kp B u v)(k:Kp B v w):Kp B u w:=
 ⟨h.below.trans k.below,fun b C t ht hb=>(k.bools b C t ht ((h.bools b C t ht hb).trans hb)).trans (h.bools b C t ht hb)⟩
theorem Kp.alloc{B:Nat}{u w:World}(h:Kp B u w)(hB:B≤w.heap.size)(o:Obj):Kp B u (w.alloc o):=
 h.trans ⟨(Below.refl _ _).alloc hB o,fun b C _ _ hb=>Qb1 w o (Array.getElem?_eq_some_iff.1 hb).1⟩
theorem Kp.drew{B:Nat}{u w:World}(h:Kp B u w):Kp B u w.drew:=⟨h.below.drew,h.bools⟩
theorem Kp.setCell{B:Nat}{u w:World}(h:Kp B u w){g:Nat}{t:TypeId}{C:Array Value}(hs:SB w g t C)(ht:kpT t=false)(hg:B≤g)(i:Nat)(v:Value):Kp B u (w.setCell ⟨g,i,none⟩ v):=
 h.trans ⟨(Below.refl _ _).setCell hg _,fun b D t' ht' hb=>by
  rw[Below.heap_setCell]
  rintro rfl
  unfold SB at hs
  rw[hs] at hb
  simp at hb
  rw[hb.2,ht'] at ht
  cases ht⟩
theorem Kp.map{B:Nat}{u w:World}(h:Kp B u w){r:Nat}{es:Array MapEntry}{c:Nat}(hr:w.heap[r]?=some (.map es c))(hB:B≤r)(o:Obj):Kp B u { w with heap:=w.heap.setIfInBounds r o }:=
 h.trans ⟨⟨rfl,rfl,rfl,by simp,fun k hk=>map_other (by omega)⟩,fun b D _ _ hb=>map_other (by rintro rfl;rw[hr] at hb;cases hb)⟩
theorem Kp.grown{B:Nat}{u w w':World}(h:Kp B u w){row:Option Nat}(hg:w.grownBy w' row)(hB:B≤w.heap.size)(hr:∀g,row=some g→B≤g∧∃t C,SB w g t C∧kpT t=false):Kp B u w':=
 h.trans ⟨⟨hg.os,hg.tape,hg.output,hg.size,fun k hk=>hg.block k (by omega) (fun e=>by have:=(hr k e.symm).1;omega)⟩,fun b D t' ht' hb=>hg.block b (Array.getElem?_eq_some_iff.1 hb).1 (fun e=>by
  obtain⟨_,t,C,hs,ht⟩:=hr b e.symm
  unfold SB at hs
  rw[hs] at hb
  simp at hb
  rw[hb.2,ht'] at ht
  cases ht)⟩
theorem Kp.sb{B:Nat}{w w':World}(h:Kp B w w'){b:Nat}{t:TypeId}{C:Array Value}(hs:SB w b t C)(ht:kpT t=true):SB w' b t C:=hs.keep (h.bools b C t ht hs)
def lsArr(n:Nat)(f:Nat→Value):Array Value:=((List.range n).map f).toArray
theorem Qng(n:Nat)(f:Nat→Value):(lsArr n f).size=n:=by simp[lsArr]
theorem Qag{n:Nat}(f:Nat→Value){p:Nat}(h:p<n):(lsArr n f)[p]?=some (f p):=by simp[lsArr,h]
theorem Qhg{n:Nat}(f:Nat→Value)(p:Nat)(v:Value):(lsArr n f).setIfInBounds p v=lsArr n (putP f p v):=by
 apply Array.ext'
 apply List.ext_getElem?
 intro i
 simp only[lsArr,Array.toList_setIfInBounds,List.getElem?_set,List.getElem?_map,List.length_map,List.length_range]
 by_cases h:p=i
 ·
  subst h
  by_cases hi:p<n
  · simp[hi,Qab]
  · simp[hi,List.getElem?_eq_none]
 ·
  by_cases hi:i<n
  · simp[h,hi,Qaa f v (Ne.symm h)]
  · simp[h,hi,List.getElem?_eq_none]
theorem Qnh{n:Nat}{f g:Nat→Value}(h:∀i,f i=g i):lsArr n f=lsArr n g:=by rw[funext h]
abbrev nv(q:Nat):Value:=.int .i64 (q:Int)
def PRow(w:World)(B:Nat)(v:Value)(l:List Nat):Prop:=w.ownsRow B 3 1 v l.length (l.map nv)
theorem PRow.keep{w w':World}{B:Nat}{v:Value}{l:List Nat}(h:PRow w B v l)(hk:∀g,v.ownBlock=some g→w'.heap[g]?=w.heap[g]?):PRow w' B v l:=by
 refine⟨h.1,?_⟩
 rcases h.2 with h1|⟨g,cap,cur,rfl,hb,hg,h2⟩
 · exact .inl h1
 · exact .inr ⟨g,cap,cur,rfl,hb,by rw[hk g rfl];exact hg,h2⟩
theorem PRow.block{w:World}{B:Nat}{v:Value}{l:List Nat}(h:PRow w B v l){g:Nat}(hg:v.ownBlock=some g):B≤g∧∃C,SB w g 3 C:=by
 rcases h.2 with ⟨rfl,_⟩|⟨g',cap,cur,rfl,hb,hg',_⟩
 · simp[Value.ownBlock] at hg
 ·
  have e:g'=g:=by simpa [Value.ownBlock] using hg
  subst e
  exact⟨hb,cur,hg'⟩
theorem PRow.at{w:World}{B:Nat}{v:Value}{l:List Nat}(h:PRow w B v l):(v=.slice none 0 0∧l= [])∨∃g cap,v=.slice (some ⟨g,0,none⟩) l.length cap∧B≤g∧g<w.heap.size∧l.length≤cap∧cap≤maxLen∧(∃C,SB w g 3 C∧C.size=cap)∧∀i q,l[i]?=some q→w.cell? ⟨g,i,none⟩=some (nv q):=by
 rcases h.2 with ⟨h1,h2⟩|⟨g,cap,cur,rfl,hb,hg,hn,hm,hs,ht⟩
 · exact .inl ⟨h1,List.eq_nil_of_length_eq_zero h2⟩
 ·
  refine .inr ⟨g,cap,rfl,hb,(Array.getElem?_eq_some_iff.1 hg).1,hn,hm,⟨cur,hg,by rw[hs];omega⟩,fun i q hi=>?_⟩
  have hil:i<l.length:=(List.getElem?_eq_some_iff.1 hi).1
  have:(l.map nv)[i]?=some (nv q):=by rw[List.getElem?_map,hi];rfl
  rw[←ht,List.getElem?_take_of_lt (by omega),Array.getElem?_toList] at this
  rw[SB.cell (t:=3) hg]
  exact this
theorem infoInt:(Tryz.prog.info? 3).map (fun i=>(i.zero,i.size,i.bytes))=some (some (.int .i64 0),1,8):=by kernel_rfl
theorem PRow.app{w:World}{B:Nat}{v:Value}{l:List Nat}(h:PRow w B v l)(hl:l.length≤1000)(hB:B≤w.heap.size)(a:Addr)(x:Nat)(hx:w.cell? a=some (nv x))(c:Nat)(ty:TypeId):
 ∃v' w',(Builtin.append_ #[181,181] ty #[v,.slice (some a) 1 c]).run Tryz.prog w=.ok v' w'∧PRow w' B v' (l++ [x])∧w.grownBy w' v.ownBlock∧(v'.ownBlock=v.ownBlock∨v'.ownBlock=some w.heap.size):=by
 obtain⟨i0,hi,hz0,hz1,hz2⟩:=info_parts infoInt
 obtain⟨v',w',h1,h2,h3,h4,h5⟩:=run_append_own_at (P:=Tryz.prog) w B 181 ty 3 i0 (.int .i64 0) 1 8 Tryz.underlying181 hi hz0 hz1 hz2 rfl (by decide) v l.length (l.map nv) h a 1 c [nv x] rfl (fun j u hj=>by
  cases j with
  |zero=>simp at hj;subst hj;simpa [Addr.add] using hx
  |succ j=>simp at hj) (fun u hu=>by rw[List.mem_singleton.1 hu];rfl) (by unfold maxLen;omega) (by omega) hB
 refine⟨v',w',h1,?_,h3,h5⟩
 unfold PRow
 rw[List.length_append,List.map_append]
 exact h2
def ISet(es:Array MapEntry)(s:PSet):Prop:=(∀e∈ es.toList,e.val=.agg #[]∧∃q:Nat,e.key=nv q)∧∀q,s q=true↔∃e∈ es.toList,e.key=nv q
theorem Qni{a b:Nat}(h:nv a=nv b):a=b:=by
 simp at h
 omega
structure PB (w:World) (B0 B n g gl gp gm:Nat) (hv:Nat→Value) (loose:Nat→Nat) (paid:Nat→List Nat) (seen:PSet):Prop where
 ne:gl≠gp∧gl≠gm∧gp≠gm∧g≠gl∧g≠gp∧g≠gm
 lo:B0≤g∧B0≤gl∧B0≤gp∧B0≤gm
 hi:g<B∧gl<B∧gp<B∧gm<B∧B≤w.heap.size
 brd:SB w g 273 #[.slice (some ⟨gl,0,none⟩) n n,.slice (some ⟨gp,0,none⟩) n n,.map (some gm)]
 ls:SB w gl 3 (lsArr n (fun p=>nv (loose p)))
 hd:SB w gp 181 (lsArr n hv)
 rows:∀p,p<n→PRow w B (hv p) (paid p)
 apart:∀p q b,p<n→q<n→p≠q→(hv p).ownBlock=some b→(hv q).ownBlock≠some b
 map:∃es c,w.heap[gm]?=some (.map es c)∧ISet es seen
section
variable {w w':World} {B0 B n g gl gp gm:Nat} {hv:Nat→Value} {loose:Nat→Nat} {paid:Nat→List Nat} {seen:PSet}
theorem PB.blk(h:PB w B0 B n g gl gp gm hv loose paid seen){p b:Nat}(hp:p<n)(hb:(hv p).ownBlock=some b):B≤b∧b<w.heap.size:=by
 obtain⟨h1,C,h2⟩:=(h.rows p hp).block hb
 exact⟨h1,h2.lt⟩
theorem PB.keep(h:PB w B0 B n g gl gp gm hv loose paid seen)(hs:w.heap.size≤w'.heap.size)
 (hk:∀b,b<w.heap.size→w'.heap[b]?=w.heap[b]?):PB w' B0 B n g gl gp gm hv loose paid seen:=by
 obtain⟨es,c,hm,hi⟩:=h.map
 obtain⟨a1,a2,a3,a4,a5⟩:=h.hi
 exact⟨h.ne,h.lo,⟨a1,a2,a3,a4,by omega⟩,h.brd.keep (hk _ (by omega)),h.ls.keep (hk _ (by omega)),h.hd.keep (hk _ (by omega)),fun p hp=>(h.rows p hp).keep (fun b hb=>hk b (h.blk hp hb).2),h.apart,es,c,(hk _ (by omega)).trans hm,hi⟩
theorem PB.alloc(h:PB w B0 B n g gl gp gm hv loose paid seen)(o:Obj):PB (w.alloc o) B0 B n g gl gp gm hv loose paid seen:=
 h.keep (by rw[World.size_alloc];omega) (fun b hb=>Qb1 w o hb)
theorem PB.drew(h:PB w B0 B n g gl gp gm hv loose paid seen):PB w.drew B0 B n g gl gp gm hv loose paid seen:=h.keep (Nat.le_refl _) (fun _ _=>rfl)
theorem PB.setLoose(h:PB w B0 B n g gl gp gm hv loose paid seen)(p x:Nat):PB (w.setCell ⟨gl,p,none⟩ (nv x)) B0 B n g gl gp gm hv (putP loose p x) paid seen:=by
 obtain⟨es,c,hm,hi⟩:=h.map
 obtain⟨a1,a2,a3,a4,a5⟩:=h.hi
 obtain⟨n1,n2,n3,n4,n5,n6⟩:=h.ne
 have hk:∀b,b≠gl→(w.setCell ⟨gl,p,none⟩ (nv x)).heap[b]?=w.heap[b]?:=fun b hb=>Below.heap_setCell _ _ _ _ hb
 have e:lsArr n (fun r=>nv (putP loose p x r))=lsArr n (putP (fun r=>nv (loose r)) p (nv x)):=Qnh (fun i=>by
  unfold putP
  by_cases h:i=p<;>simp[h])
 refine⟨h.ne,h.lo,⟨a1,a2,a3,a4,by simpa [World.setCell] using a5⟩,h.brd.keep (hk _ n4),?_,h.hd.keep (hk _ (Ne.symm n1)),fun q hq=>(h.rows q hq).keep (fun b hb=>hk b (by have:=(h.blk hq hb).1;omega)),h.apart,es,c,(hk _ (Ne.symm n2)).trans hm,hi⟩
 rw[e,←Qhg]
 exact h.ls.set p _
theorem PB.setRow(h:PB w B0 B n g gl gp gm hv loose paid seen){p:Nat}(hp:p<n){v:Value}{l:List Nat}(hs:w.heap.size≤w'.heap.size)
 (hk:∀b,b<w.heap.size→(hv p).ownBlock≠some b→w'.heap[b]?=w.heap[b]?) (hr:PRow w' B v l)
 (hat:v.ownBlock=(hv p).ownBlock∨∀b,v.ownBlock=some b→w.heap.size≤b):PB (w'.setCell ⟨gp,p,none⟩ v) B0 B n g gl gp gm (putP hv p v) loose (putP paid p l) seen:=by
 obtain⟨es,c,hm,hi⟩:=h.map
 obtain⟨a1,a2,a3,a4,a5⟩:=h.hi
 obtain⟨n1,n2,n3,n4,n5,n6⟩:=h.ne
 have hlow:∀b,b<B→w'.heap[b]?=w.heap[b]?:=fun b hb=>hk b (by omega) (fun e=>by have:=(h.blk hp e).1;omega)
 have hset:∀b,b≠gp→(w'.setCell ⟨gp,p,none⟩ v).heap[b]?=w'.heap[b]?:=fun b hb=>Below.heap_setCell _ _ _ _ hb
 have hfar:∀b,v.ownBlock=some b→b≠gp:=fun b hb=>by have:=(hr.block hb).1;omega
 refine⟨h.ne,h.lo,⟨a1,a2,a3,a4,by simp[World.setCell];omega⟩,h.brd.keep ((hset _ n5).trans (hlow _ a1)),h.ls.keep ((hset _ n1).trans (hlow _ a2)),?_,fun q hq=>?_,fun q r b hq hrn hne hb=>?_,es,c,((hset _ (Ne.symm n3)).trans (hlow _ a4)).trans hm,hi⟩
 · rw[←Qhg]
   exact(h.hd.keep (hlow _ a3)).set p v
 ·
  by_cases e:q=p
  ·
   subst e
   rw[Qab,Qab]
   exact hr.keep (fun b hb=>hset b (hfar b hb))
  · rw[Qaa _ _ e,Qaa _ _ e]
    exact(h.rows q hq).keep (fun b hb=>(hset b (by have:=(h.blk hq hb).1;omega)).trans (hk b (h.blk hq hb).2 (h.apart q p b hq hp e hb)))
 ·
  have far:∀s,s<n→s≠p→∀b,(hv s).ownBlock=some b→v.ownBlock≠some b:=fun s hs hsp b hb hv'=>by
   rcases hat with e|e
   · rw[e] at hv'
     exact h.apart s p b hs hp hsp hb hv'
   ·
    have:=e b hv'
    have:=(h.blk hs hb).2
    omega
  by_cases e1:q=p
  ·
   subst e1
   rw[Qab] at hb
   rw[Qaa _ _ (Ne.symm hne)]
   exact fun hc=>far r hrn (Ne.symm hne) b hc hb
  ·
   rw[Qaa _ _ e1] at hb
   by_cases e2:r=p
   ·
    subst e2
    rw[Qab]
    exact far q hq e1 b hb
   · rw[Qaa _ _ e2]
     exact h.apart q r b hq hrn hne hb
theorem PB.setMap(h:PB w B0 B n g gl gp gm hv loose paid seen){es:Array MapEntry}{c:Nat}{s:PSet}(hi:ISet es s):PB { w with heap:=w.heap.setIfInBounds gm (.map es c) } B0 B n g gl gp gm hv loose paid s:=by
 obtain⟨a1,a2,a3,a4,a5⟩:=h.hi
 obtain⟨n1,n2,n3,n4,n5,n6⟩:=h.ne
 have hk:∀b,b≠gm→({ w with heap:=w.heap.setIfInBounds gm (.map es c) }:World).heap[b]?=w.heap[b]?:=fun b hb=>map_other hb
 exact⟨h.ne,h.lo,⟨a1,a2,a3,a4,by simpa using a5⟩,h.brd.keep (hk _ n6),h.ls.keep (hk _ n2),h.hd.keep (hk _ n3),fun q hq=>(h.rows q hq).keep (fun b hb=>hk b (by have:=(h.blk hq hb).1;omega)),h.apart,es,c,map_same (by omega),hi⟩
end
theorem ISet.empty:ISet #[] (fun _=>false):=⟨by simp,by simp⟩
theorem ISet.push{es:Array MapEntry}{s:PSet}(h:ISet es s)(q b:Nat):ISet (es.push { key:=nv q,val:=.agg #[],born:=b }) (putP s q true):=by
 refine⟨fun e he=>?_,fun r=>?_⟩
 ·
  simp only[Array.toList_push,List.mem_append,List.mem_singleton] at he
  rcases he with he|rfl
  · exact h.1 e he
  · exact⟨rfl,q,rfl⟩
 ·
  simp only[Array.toList_push,List.mem_append,List.mem_singleton]
  by_cases hr:r=q
  ·
   subst hr
   rw[Qab]
   simp
  ·
   rw[Qaa _ _ hr,h.2 r]
   constructor
   · rintro⟨e,he,hk⟩
     exact⟨e,Or.inl he,hk⟩
   ·
    rintro⟨e,he|rfl,hk⟩
    · exact⟨e,he,hk⟩
    · exact absurd (Qni hk).symm hr
theorem Qd7(q:Nat):∀d,Tryz.prog.underlying 3=some d→IsKey d (nv q):=fun d hd=>by
 rw[Tryz.underlying3] at hd
 cases hd
 simp[IsKey]
theorem Qd8{es:Array MapEntry}{s:PSet}(h:ISet es s)(q:Nat)(w:World):∃x,(Instr.findKey 3 (nv q) es.toList).run Tryz.prog w=.ok x w∧(s q=true→∃j,x=some (j,.agg #[]))∧(s q=false→x=none):=by
 have hk:∀(d:TypeDesc),Tryz.prog.underlying 3=some d→∀x∈ es.toList,IsKey d x.key:=fun d hd x hx=>by
  obtain⟨_,r,hr⟩:=h.1 x hx
  rw[hr]
  exact Qd7 r d hd
 rcases findNow_spec (Qd7 q _ Tryz.underlying3) es.toList 0 (hk _ Tryz.underlying3) with ⟨h1,h2⟩|⟨j,e,h1,h2,h3⟩
 ·
  refine⟨none,run_findKey Tryz.underlying3 h1,fun hs=>?_,fun _=>rfl⟩
  obtain⟨e,he,hk⟩:=(h.2 q).1 hs
  exact absurd hk (h2 e he)
 ·
  have he:=List.mem_of_getElem? h2
  refine⟨_,run_findKey Tryz.underlying3 h1,fun _=>⟨_,by rw[(h.1 e he).1]⟩,fun hs=>?_⟩
  rw[(h.2 q).2 ⟨e,he,h3⟩] at hs
  cases hs
theorem Qcq(b:Bool)(q:Nat)(w:World):(Instr.checkKey b 10000 3 (nv q)).run Tryz.prog w=.ok () w:=run_checkKey Tryz.underlying3 (Qd7 q _ Tryz.underlying3) b 9999
theorem Qhh:∀w,(zeroValue 241).run Tryz.prog w=.ok (.agg #[]) w:=by
 intro w
 obtain⟨i,hi,h⟩:=Option.map_eq_some_iff.1 (show (Tryz.prog.info? 241).map (·.zero)=some (some (.agg #[])) by kernel_rfl)
 simp[zeroValue,typeInfo,hi,h]
theorem Qnj{w:World}{gm:Nat}{es:Array MapEntry}{c:Nat}{s:PSet}(hm:w.heap[gm]?=some (.map es c))(h:ISet es s)(q:Nat):
 (Instr.lookup 271 (.map (some gm)) (nv q) true).run Tryz.prog w=.ok (.tuple #[.agg #[],.bool (s q)]) w:=by
 obtain⟨x,h1,h2,h3⟩:=Qd8 h q w
 cases hs:s q with
 |true=>
  obtain⟨j,rfl⟩:=h2 hs
  simp[Instr.lookup,run_underlying Tryz.underlying271,Go.MapKept.run_getObj_map hm,Qcq,h1]
 |false=>
  obtain rfl:=h3 hs
  simp[Instr.lookup,run_underlying Tryz.underlying271,Go.MapKept.run_getObj_map hm,Qcq,h1,Qhh]
theorem Qnk{w:World}{gm:Nat}{es:Array MapEntry}{c:Nat}{s:PSet}(hm:w.heap[gm]?=some (.map es c))(h:ISet es s)(q:Nat)(hq:s q=false):
 (Instr.mapUpdate 271 (.map (some gm)) (nv q) (.agg #[])).run Tryz.prog w=.ok () { w with heap:=w.heap.setIfInBounds gm (.map (es.push { key:=nv q,val:=.agg #[],born:=c }) (c+1)) }:=by
 obtain⟨x,h1,h2,h3⟩:=Qd8 h q w
 obtain rfl:=h3 hq
 simp[Instr.mapUpdate,run_underlying Tryz.underlying271,Go.MapKept.run_getObj_map hm,Qcq,h1,Go.MapKept.run_setObj_map _ hm,Result.andThen]
theorem Qcr{w:World}{gm:Nat}{es:Array MapEntry}{c:Nat}{s:PSet}(hm:w.heap[gm]?=some (.map es c))(h:ISet es s)(q:Nat)(hq:s q=false):
 (Instr.mapEntry 271 (.map (some gm)) (nv q)).run Tryz.prog w=.ok (.tuple #[.agg #[],.int .i64 (c:Int)]) { w with heap:=w.heap.setIfInBounds gm (.map (es.push { key:=nv q,val:=.agg #[],born:=c }) (c+1)) }:=by
 obtain⟨x,h1,h2,h3⟩:=Qd8 h q w
 obtain rfl:=h3 hq
 simp[Instr.mapEntry,run_underlying Tryz.underlying271,Go.MapKept.run_getObj_map hm,Qcq,h1,Go.MapKept.run_setObj_map _ hm,Result.andThen,Qhh,goInt]
theorem Qbi{w:World}{gm:Nat}{es:Array MapEntry}{c:Nat}{s:PSet}(hm:w.heap[gm]?=some (.map es c))(h:ISet es s)(b:Nat)(hb:∃e∈ es.toList,e.born=b):
 (Instr.entryStore 271 (.map (some gm)) (.int .i64 (b:Int)) (.agg #[])).run Tryz.prog w=.ok () w:=by
 have hf:∃i,es.findIdx? (fun e=>(e.born:Int) == (b:Int))=some i:=by
  cases hc:es.findIdx? (fun e=>(e.born:Int) == (b:Int)) with
  |some i=>exact⟨i,rfl⟩
  |none=>
   exfalso
   obtain⟨e,he,hbe⟩:=hb
   have:=(Array.findIdx?_eq_none_iff.1 hc) e (Array.mem_toList_iff.1 he)
   simp[hbe] at this
 obtain⟨i,hi⟩:=hf
 have hsame:es.modify i (fun e=>{ e with val:=.agg #[] })=es:=by
  apply Array.ext'
  apply List.ext_getElem?
  intro j
  simp only[Array.toList_modify,List.getElem?_modify]
  cases hj:es.toList[j]? with
  |none=>simp
  |some e=>
   have:=(h.1 e (List.mem_of_getElem? hj)).1
   by_cases hij:i=j
   ·
    simp[hij]
    cases e
    simp at this
    simp[this]
   · simp[hij]
 have hw:({ w with heap:=w.heap.setIfInBounds gm (.map es c) }:World)=w:=by
  have:w.heap.setIfInBounds gm (.map es c)=w.heap:=by
   apply Array.ext_getElem?
   intro j
   rw[Array.getElem?_setIfInBounds]
   by_cases hj:gm=j
   ·
    subst hj
    rw[hm]
    simp[(Array.getElem?_eq_some_iff.1 hm).1]
   · simp[hj]
  rw[this]
 simp[Instr.entryStore,Go.MapKept.run_getObj_map hm,asInt,asIntOf,hi,Go.MapKept.run_setObj_map _ hm,Result.andThen,hsame,hw]
theorem Qnl{w:World}{gm:Nat}{es:Array MapEntry}{c:Nat}(hm:w.heap[gm]?=some (.map es c))(ty:TypeId):
 (Builtin.clear_ #[271] ty #[.map (some gm)]).run Tryz.prog w=.ok (.tuple #[]) { w with heap:=w.heap.setIfInBounds gm (.map #[] c) }:=by
 simp[Builtin.clear_,run_underlying Tryz.underlying271,Go.MapKept.run_getObj_map hm,Go.MapKept.run_setObj_map _ hm,Result.andThen]
end Go.Proofs.YtjhdfkcdigmfhaaGreatDoor.Peb
namespace Go.Proofs.YtjhdfkcdigmfhaaGreatDoor.Peb
open Go.RowKit Go.MapKept
set_option linter.unusedVariables false
set_option linter.unusedSimpArgs false
def Bd(n:Nat)(loose:Nat→Nat)(paid:Nat→List Nat):Prop:=(∀p,p<n→loose p+(paid p).length≤2)∧∀p,p<n→∀q∈ paid p,q<n
def unseen(n:Nat)(s:PSet):Nat:=sumTo n (fun p=>(!s p).toNat)
theorem Qhp{n:Nat}{s:PSet}{q:Nat}(hq:q<n)(hs:s q=false):unseen n (putP s q true)+1=unseen n s:=by
 have:=Qaw n (fun p=>(!s p).toNat) (fun p=>(!putP s q true p).toNat) q hq (fun i _ hne=>by simp only[Qaa _ _ hne])
 simp only[Qab,hs] at this
 unfold unseen
 simpa using this
theorem Qn0{n:Nat}{s s':PSet}(h:∀r,s r=true→s' r=true):unseen n s'≤unseen n s:=
 Qd3 n _ _ (fun i _=>by
  cases hs:s i with
  |false=>exact Bool.toNat_le _
  |true=>rw[h i hs];exact Nat.le_refl _)
def SpareSays(n q:Nat)(seen:PSet)(hv:Nat→Value)(loose:Nat→Nat)(paid:Nat→List Nat)(b:Bool)(hv':Nat→Value)(loose':Nat→Nat)(paid':Nat→List Nat)(seen':PSet):Prop:=
 (b=true∧seen q=false∧Gave n q seen loose paid loose' paid')∨(b=false∧loose'=loose∧paid'=paid∧hv'=hv∧Shut loose paid seen seen'∧seen' q=true)
def RelSays(n p:Nat)(seen:PSet)(hv:Nat→Value)(loose:Nat→Nat)(paid:Nat→List Nat)(b:Bool)(hv':Nat→Value)(loose':Nat→Nat)(paid':Nat→List Nat)(seen':PSet):Prop:=
 (b=true∧Gave n p (putP seen p false) loose paid loose' paid'∧loose' p=loose p)∨(b=false∧loose'=loose∧paid'=paid∧hv'=hv∧Shut loose paid seen seen'∧∀q∈ paid p,seen' q=true)
theorem RelSays.spare{n q:Nat}{seen seen':PSet}{hv hv':Nat→Value}{loose loose':Nat→Nat}{paid paid':Nat→List Nat}{b:Bool}(h:RelSays n q (putP seen q true) hv loose paid b hv' loose' paid' seen')(hs:seen q=false)(hl:loose q=0):SpareSays n q seen hv loose paid b hv' loose' paid' seen':=by
 rcases h with ⟨h1,h2,h3⟩|⟨h1,h2,h3,h4,h5,h6⟩
 ·
  refine Or.inl ⟨h1,hs,h2.less (fun r hr=>?_)⟩
  have:r≠q:=fun e=>by rw[e,hs] at hr;cases hr
  rw[Qaa _ _ this,Qaa _ _ this]
  exact hr
 · obtain⟨a,c⟩:=h5.spare hl h6
   exact Or.inr ⟨h1,h2,h3,h4,a,c⟩
abbrev brdV(g:Nat):Value:=.pointer (some ⟨g,0,none⟩)
def SpareAt(B0 B n g gl gp gm k:Nat):Prop:=∀(w:World) (hv:Nat→Value) (loose:Nat→Nat) (paid:Nat→List Nat) (seen:PSet) (q:Nat),PB w B0 B n g gl gp gm hv loose paid seen→Bd n loose paid→q<n→unseen n seen≤k→
 Calls Tryz.prog 299 #[brdV g,nv q] w fun e w'=>∃b hv' loose' paid' seen',e=.returned (.bool b)∧PB w' B0 B n g gl gp gm hv' loose' paid' seen'∧Kp B0 w w'∧SpareSays n q seen hv loose paid b hv' loose' paid' seen'
def RelAt(B0 B n g gl gp gm k:Nat):Prop:=∀(w:World) (hv:Nat→Value) (loose:Nat→Nat) (paid:Nat→List Nat) (seen:PSet) (p:Nat),PB w B0 B n g gl gp gm hv loose paid seen→Bd n loose paid→p<n→seen p=true→unseen n seen≤k→
 Calls Tryz.prog 258 #[brdV g,nv p] w fun e w'=>∃b hv' loose' paid' seen',e=.returned (.bool b)∧PB w' B0 B n g gl gp gm hv' loose' paid' seen'∧Kp B0 w w'∧RelSays n p seen hv loose paid b hv' loose' paid' seen'
set_option maxRecDepth 100000 in
set_option maxHeartbeats 2000000 in
theorem Qn1{B0 B n g gl gp gm k:Nat}(hn:n≤10)(hrel:∀j,j<k→RelAt B0 B n g gl gp gm j):SpareAt B0 B n g gl gp gm k:=by
 intro w hv loose paid seen q h hbd hq hk
 have HREL:=Hi hrel
 have HPB:=Hi h
 have HBD:=Hi hbd
 have HK:=Hi hk
 obtain⟨es,c,hm,hi⟩:=h.map
 have hlook:(Instr.lookup 271 (.map (some gm)) (.int .i64 (q:Int)) true).run Tryz.prog w=_:=Qnj hm hi q
 have c2:w.cell? ⟨g,2,none⟩=some (.map (some gm)):=h.brd.cell 2
 obtain⟨V,hV⟩:∃V,w.alloc (.cells #[] 241)=V:=⟨_,rfl⟩
 have hpv:PB V B0 B n g gl gp gm hv loose paid seen:=by rw[←hV];exact h.alloc _
 have hbw:B0≤w.heap.size:=by have:=h.hi;have:=h.lo;omega
 have HKV:Hid (Kp B0 w V):=Hi (by rw[←hV];exact(Kp.refl _ _).alloc hbw _)
 have HPV:=Hi hpv
 cases hs:seen q with
 |true=>
  rw[hs] at hlook
  have HS:=Hi hs
  have HV:=Hi hV
  clear h hbd hk hm hi hpv hbw hs hV hrel
  go_enter Tryz.func299,Tryz.ntmps299
  go_wp2
  go_ret
  exact⟨false,hv,loose,paid,seen,rfl,by rw[HV.out];exact HPV.out,by rw[HV.out];exact HKV.out,Or.inr ⟨rfl,rfl,rfl,rfl,Shut.refl _ _ _,HS.out⟩⟩
 |false=>
  rw[hs] at hlook
  have hmV:V.heap[gm]?=some (.map es c):=by rw[←hV];exact(Qb1 w _ (by have:=h.hi;omega)).trans hm
  have hput:(Instr.mapUpdate 271 (.map (some gm)) (.int .i64 (q:Int)) (.agg #[])).run Tryz.prog V=_:=Qnk hmV hi q hs
  obtain⟨U,hU⟩:∃U,({ V with heap:=V.heap.setIfInBounds gm (.map (es.push { key:=nv q,val:=.agg #[],born:=c }) (c+1)) }:World)=U:=⟨_,rfl⟩
  have hpu:PB U B0 B n g gl gp gm hv loose paid (putP seen q true):=by rw[←hU];exact hpv.setMap (hi.push q c)
  have HKU:Hid (Kp B0 w U):=Hi (by rw[←hU];exact HKV.out.map hmV (by have:=h.lo;omega) _)
  rw[hU] at hput
  have HPU:=Hi hpu
  have c2V:V.cell? ⟨g,2,none⟩=some (.map (some gm)):=hpv.brd.cell 2
  have c0U:U.cell? ⟨g,0,none⟩=some (.slice (some ⟨gl,0,none⟩) n n):=hpu.brd.cell 0
  have l0U:U.cell? ⟨gl,q,none⟩=some (.int .i64 (loose q:Int)):=(hpu.ls.cell q).trans (Qag _ hq)
  have f0U:U.frozen? ⟨gl,q,none⟩=false:=hpu.ls.free q
  have hlq:loose q≤2:=by have:=hbd.1 q hq;omega
  have HS:=Hi hs
  have HV:=Hi hV
  have HU:=Hi hU
  rw[←hV] at c2V hput
  clear h hbd hk hm hi hpv hbw hs hV hrel hmV hpu hU
  by_cases hl:0<loose q
  ·
   have e1:((loose q:Int) > 0):=by omega
   have e2:IntKind.i64.wrap ((loose q:Int) - 1)=((loose q - 1:Nat):Int):=by
    rw[show ((loose q:Int) - 1)=((loose q - 1:Nat):Int) by omega]
    simp[IntKind.wrap,IntKind.signed,IntKind.bits]
    omega
   go_enter Tryz.func299,Tryz.ntmps299
   go_wp2
   go_ret
   exact⟨true,hv,putP loose q (loose q - 1),paid,putP seen q true,rfl,HPU.out.setLoose q _,HKU.out.setCell HPU.out.ls (by decide) HPU.out.lo.2.1 _ _,Or.inl ⟨rfl,HS.out,Qnd HS.out hl HBD.out.2⟩⟩
  ·
   have e1:¬((loose q:Int) > 0):=by omega
   go_enter Tryz.func299,Tryz.ntmps299
   have HC:=Hi (HREL.out (k - 1) (by have:=Qhp hq HS.out;have:=HK.out;omega) U hv loose paid (putP seen q true) q HPU.out HBD.out hq (Qab _ _ _) (by have:=Qhp hq HS.out;have:=HK.out;omega))
   go_wp2_with fail
   go_fit HC.out
   rintro e w1 ⟨b,hv1,loose1,paid1,seen1,rfl,hpb1,hkp1,hsay⟩
   have HP1:=Hi hpb1
   have HK1:=Hi (HKU.out.trans hkp1)
   have HSA:=Hi hsay
   clear hpb1 hkp1 hsay
   go_wp2
   go_ret
   exact⟨b,hv1,loose1,paid1,seen1,rfl,HP1.out,HK1.out,HSA.out.spare HS.out (by omega)⟩
end Go.Proofs.YtjhdfkcdigmfhaaGreatDoor.Peb
