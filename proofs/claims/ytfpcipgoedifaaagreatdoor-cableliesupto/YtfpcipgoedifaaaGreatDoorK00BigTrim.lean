/- rafterbig's trim, cmp: what they answer of words in memory. -/
import Derived.Test.YtfpcipgoedifaaaGreatDoorChecked
import Derived.WalkKit
import Derived.Below
import Derived.OwnWalk
import Derived.Outline
import Derived.Deep.OwnRows
import Derived.RegionTactic
import Derived.ChangeAlike
namespace Go.Proofs.YtfpcipgoedifaaaGreatDoor
set_option linter.unusedVariables false
def val(B:Nat):List Nat→Nat
 | []=>0
 |d :: l=>d+B*val B l
theorem Qdb(B:Nat):val B []=0:=rfl
theorem Qbj(B d:Nat)(l:List Nat):val B (d :: l)=d+B*val B l:=rfl
theorem Qdc(B:Nat)(l m:List Nat):val B (l++m)=val B l+B ^ l.length*val B m:=by
 induction l with
 |nil=>simp[val]
 |cons d l ih=>
  simp only[List.cons_append,val,ih,List.length_cons,Nat.pow_succ,Nat.mul_add,Nat.add_assoc];rw[Nat.mul_comm (B ^ l.length) B,Nat.mul_assoc]
theorem Qal(B:Nat)(l:List Nat)(d:Nat):val B (l++ [d])=val B l+B ^ l.length*d:=by
 rw[Qdc];simp[val]
def Small(B:Nat)(l:List Nat):Prop:=∀d,d∈ l→d<B
theorem Small.nil(B:Nat):Small B []:=fun d h=>by cases h
theorem Small.append{B:Nat}{l m:List Nat}(h:Small B l)(k:Small B m):Small B (l++m):=fun d hd=>by
 rcases List.mem_append.1 hd with h1|h1
 · exact h d h1
 · exact k d h1
theorem Small.take{B:Nat}{l:List Nat}(h:Small B l)(n:Nat):Small B (l.take n):=fun d hd=>h d (List.mem_of_mem_take hd)
theorem Small.drop{B:Nat}{l:List Nat}(h:Small B l)(n:Nat):Small B (l.drop n):=fun d hd=>h d (List.mem_of_mem_drop hd)
theorem Small.set{B:Nat}{l:List Nat}(h:Small B l)(i:Nat){d:Nat}(k:d<B):Small B (l.set i d):=fun e he=>by
 rcases List.mem_or_eq_of_mem_set he with h1|h1
 · exact h e h1
 · subst h1;exact k
theorem Small.getD{B:Nat}{l:List Nat}(h:Small B l)(hB:0<B)(i:Nat):l.getD i 0<B:=by
 by_cases hi:i<l.length
 · rw[List.getD_eq_getElem?_getD,List.getElem?_eq_getElem hi]
   exact h _ (List.getElem_mem hi)
 · rw[List.getD_eq_getElem?_getD,List.getElem?_eq_none (by omega)]
   exact hB
theorem Small.replicate(B n:Nat)(hB:0<B):Small B (List.replicate n 0):=fun d hd=>by
 have:=List.eq_of_mem_replicate hd;omega
theorem Qab{B:Nat}{l:List Nat}(hB:0<B)(h:Small B l):val B l<B ^ l.length:=by
 induction l with
 |nil=>simp[val]
 |cons d l ih=>
  have h1:=ih (fun e he=>h e (List.mem_cons_of_mem _ he));have h2:=h d (List.mem_cons_self ..);simp only[val,List.length_cons,Nat.pow_succ];rw[Nat.mul_comm (B ^ l.length) B];have h3:B*(val B l+1)≤B*B ^ l.length:=Nat.mul_le_mul_left B h1;rw[Nat.mul_add] at h3;omega
theorem Qn6(B n:Nat):val B (List.replicate n 0)=0:=by
 induction n with
 |zero=>rfl
 |succ n ih=>simp[List.replicate_succ,val,ih]
theorem Qb0(B:Nat)(l:List Nat)(k:Nat)(h:k<l.length):val B (l.take (k+1))=val B (l.take k)+B ^ k*l.getD k 0:=by
 rw[List.take_succ_eq_append_getElem h,Qal,List.length_take,Nat.min_eq_left (by omega),List.getD_eq_getElem?_getD,List.getElem?_eq_getElem h];rfl
theorem Qa2(B:Nat)(l:List Nat)(k:Nat)(h:l.length≤k):val B (l.take k)=val B l:=by
 rw[List.take_of_length_le h]
theorem Qad(B:Nat)(l:List Nat)(k:Nat):val B (l.take (k+1))=val B (l.take k)+B ^ k*l.getD k 0:=by
 by_cases h:k<l.length
 · exact Qb0 B l k h
 · rw[Qa2 _ _ _ (by omega),Qa2 _ _ _ (by omega),List.getD_eq_getElem?_getD,List.getElem?_eq_none (by omega)]
   simp
theorem Qaj(B:Nat)(l:List Nat)(k:Nat)(h:k≤l.length):val B l=val B (l.take k)+B ^ k*val B (l.drop k):=by
 conv=>lhs;rw[←List.take_append_drop k l]
 rw[Qdc,List.length_take,Nat.min_eq_left h]
theorem Qce(l:List Nat)(k:Nat)(h:k<l.length):l.drop k=l.getD k 0 :: l.drop (k+1):=by
 rw[List.drop_eq_getElem_cons h,List.getD_eq_getElem?_getD,List.getElem?_eq_getElem h];rfl
theorem Qao(B:Nat)(l:List Nat)(k:Nat)(h:k<l.length):val B (l.drop k)=l.getD k 0+B*val B (l.drop (k+1)):=by
 rw[Qce l k h,Qbj]
theorem take_set(l:List Nat)(k d:Nat)(h:k<l.length):(l.set k d).take (k+1)=l.take k++ [d]:=by
 rw[List.take_succ_eq_append_getElem (by simpa using h),List.take_set_of_le (Nat.le_refl _)];simp
def Trim(l:List Nat):Prop:=l= []∨l.getD (l.length - 1) 0≠0
theorem Trim.pow_le{B:Nat}{l:List Nat}(h:Trim l)(hl:0<l.length):B ^ (l.length - 1)≤val B l:=by
 rcases h with rfl|h
 · simp at hl
 ·
  have e:=Qaj B l (l.length - 1) (by omega);have e2:=Qao B l (l.length - 1) (by omega);rw[e,e2];have h1:1≤l.getD (l.length - 1) 0+B*val B (l.drop (l.length - 1+1)):=by omega
  have:=Nat.mul_le_mul_left (B ^ (l.length - 1)) h1;omega
theorem Qn7{B:Nat}{l:List Nat}(hB:0<B)(h:Trim l):val B l=0↔l= []:=by
 constructor
 ·
  intro e;by_cases hl:0<l.length
  ·
   have h1:=h.pow_le (B:=B) hl;have h2:0<B ^ (l.length - 1):=Nat.pow_pos hB;omega
  · exact List.eq_nil_of_length_eq_zero (by omega)
 · rintro rfl;rfl
theorem Qb1{B:Nat}(hB:0<B){m n:Nat}(h:m≤n):B ^ m≤B ^ n:=Nat.pow_le_pow_right hB h
theorem Qas{B:Nat}{l m:List Nat}(hB:0<B)(hl:Small B l)(hm:Trim m)(h:l.length<m.length):val B l<val B m:=by
 have h1:=Qab hB hl;have h2:=hm.pow_le (B:=B) (by omega);have h3:=Qb1 hB (show l.length≤m.length - 1 by omega);omega
theorem Qhs{B:Nat}{d:Nat}{x:Nat}(h:d<B):(d+B*x) % B=d:=by
 rw[Nat.add_mul_mod_self_left,Nat.mod_eq_of_lt h]
theorem Qht{B:Nat}{d:Nat}{x:Nat}(h:d<B):(d+B*x) / B=x:=by
 rw[Nat.add_mul_div_left _ _ (by omega),Nat.div_eq_of_lt h,Nat.zero_add]
theorem Qhu{B:Nat}:∀{l m:List Nat},Small B l→Small B m→l.length=m.length→val B l=val B m→l=m
 | [],[],_,_,_,_=>rfl
 | [],_ :: _,_,_,h,_=>by simp at h
 |_ :: _,[],_,_,h,_=>by simp at h
 |d :: l,e :: m,h1,h2,h3,h4=>by
  have hd:=h1 d (List.mem_cons_self ..);have he:=h2 e (List.mem_cons_self ..);simp only[val] at h4;have e1:d=e:=by rw[←Qhs (x:=val B l) hd,←Qhs (x:=val B m) he,h4]
  have e2:val B l=val B m:=by rw[←Qht (x:=val B l) hd,←Qht (x:=val B m) he,h4]
  rw[e1,Qhu (fun x hx=>h1 x (List.mem_cons_of_mem _ hx)) (fun x hx=>h2 x (List.mem_cons_of_mem _ hx)) (by simpa using h3) e2]
structure Num (B:Nat) (l:List Nat) (n:Nat):Prop where
 small:Small B l
 trim:Trim l
 eq:val B l=n
theorem Num.inj{B:Nat}{l m:List Nat}{n:Nat}(hB:0<B)(h:Num B l n)(k:Num B m n):l=m:=by
 have e:l.length=m.length:=by
  rcases Nat.lt_trichotomy l.length m.length with h1|h1|h1
  · have:=Qas hB h.small k.trim h1;have:=h.eq;have:=k.eq;omega
  · exact h1
  · have:=Qas hB k.small h.trim h1;have:=h.eq;have:=k.eq;omega
 exact Qhu h.small k.small e (h.eq.trans k.eq.symm)
theorem Num.zero(B:Nat):Num B [] 0:=⟨Small.nil B,.inl rfl,rfl⟩
theorem Num.nil_iff{B:Nat}{l:List Nat}{n:Nat}(hB:0<B)(h:Num B l n):n=0↔l= []:=by
 rw[←h.eq];exact Qn7 hB h.trim
theorem Num.len_zero{B:Nat}{l:List Nat}{n:Nat}(hB:0<B)(h:Num B l n):n=0↔l.length=0:=by
 rw[h.nil_iff hB];exact List.length_eq_zero_iff.symm
theorem Num.length_le_of_lt{B:Nat}{l:List Nat}{n k:Nat}(hB:0<B)(h:Num B l n)(hn:n<B ^ k):l.length≤k:=by
 apply Classical.byContradiction;intro hc;have h1:=h.trim.pow_le (B:=B) (by omega);have h2:=Qb1 hB (show k≤l.length - 1 by omega);rw[h.eq] at h1;omega
def nb(n:Nat):Nat:=if n=0 then 0 else n.log2+1
theorem Qe4(n:Nat):n<2 ^ nb n:=by
 unfold nb
 split
 · omega
 · exact Nat.lt_log2_self
theorem nb_le{n k:Nat}(h:n<2 ^ k):nb n≤k:=by
 unfold nb
 split
 · omega
 · rename_i h0
   exact(Nat.log2_lt h0).2 h
theorem Qn8:nb 0=0:=rfl
theorem Qdd{n:Nat}(h:0<n):1≤nb n:=by unfold nb;rw[if_neg (by omega)];omega
theorem Qhv{n k:Nat}(h:k<nb n):2 ^ k≤n:=by
 apply Classical.byContradiction;intro hc;have:=nb_le (n:=n) (k:=k) (by omega);omega
theorem Num.nb_le{q:Nat}{l:List Nat}{n:Nat}(h:Num (2 ^ q) l n):nb n≤q*l.length:=by
 apply Go.Proofs.YtfpcipgoedifaaaGreatDoor.nb_le;have:=Qab (Nat.pow_pos (by omega)) h.small;rw[h.eq,←Nat.pow_mul] at this;exact this
def cmp3(x y:Nat):Int:=if x<y then -1 else if x=y then 0 else 1
theorem Qcf{x y:Nat}(h:x<y):cmp3 x y= -1:=by unfold cmp3;rw[if_pos h]
theorem Qhw{x y:Nat}(h:x=y):cmp3 x y=0:=by unfold cmp3;rw[if_neg (by omega),if_pos h]
theorem Qde{x y:Nat}(h:y<x):cmp3 x y=1:=by unfold cmp3;rw[if_neg (by omega),if_neg (by omega)]
theorem Qat(x y:Nat):cmp3 x y<0↔x<y:=by
 unfold cmp3
 split
 · simp;assumption
 · split<;>simp<;>omega
theorem Qn9(x y:Nat): -1≤cmp3 x y∧cmp3 x y≤1:=by
 unfold cmp3
 split
 · omega
 · split<;>omega
theorem Qdf{B:Nat}(hB:0<B){l m:List Nat}(hl:Small B l)(j:Nat)(h1:j<l.length)(h2:j<m.length)(hd:l.drop (j+1)=m.drop (j+1))(h:l.getD j 0<m.getD j 0):val B l<val B m:=by
 rw[Qaj B l j (by omega),Qaj B m j (by omega),Qao B l j h1,Qao B m j h2,hd];have h3:=Qab hB (hl.take j);rw[List.length_take,Nat.min_eq_left (by omega)] at h3;have h4:B ^ j*(l.getD j 0+B*val B (m.drop (j+1))+1)≤B ^ j*(m.getD j 0+B*val B (m.drop (j+1))):=Nat.mul_le_mul_left _ (by omega);rw[Nat.mul_add _ _ 1] at h4;omega
theorem Qhx{l m:List Nat}{j:Nat}(h1:j<l.length)(h2:j<m.length)(hd:l.drop (j+1)=m.drop (j+1))(h:l.getD j 0=m.getD j 0):l.drop j=m.drop j:=by
 rw[Qce l j h1,Qce m j h2,hd,h]
theorem Qoa(B k c t R:Nat)(rs:List Nat)(hk:k<rs.length)(h:val B (rs.take k)+B ^ k*c=R):
 val B ((rs.set k ((c+t) % B)).take (k+1))+B ^ (k+1)*((c+t) / B)=R+B ^ k*t:=by
 rw[take_set _ _ _ hk,Qal,List.length_take,Nat.min_eq_left (by omega),Nat.pow_succ];have e:=Nat.mod_add_div (c+t) B;have e2:B ^ k*((c+t) % B+B*((c+t) / B))=B ^ k*(c+t):=by rw[e]
 rw[Nat.mul_add,Nat.mul_add,←Nat.mul_assoc] at e2;omega
theorem Qbk(l:List Nat)(k:Nat)(h:l.length≤k):l.getD k 0=0:=by
 rw[List.getD_eq_getElem?_getD,List.getElem?_eq_none h];rfl
theorem Qe5(B:Nat)(rs:List Nat)(n c:Nat)(h:rs.length=n+1):val B (rs.set n c)=val B (rs.take n)+B ^ n*c:=by
 rw[←Qa2 B (rs.set n c) (n+1) (by simp;omega),take_set _ _ _ (by omega),Qal,List.length_take,Nat.min_eq_left (by omega)]
theorem Qdg(k c d e:Nat)(rs l m:List Nat)(hk:k<rs.length)(hd:l.getD k 0=d)(he:m.getD k 0=e)
 (h:val 4294967296 (rs.take k)+4294967296 ^ k*c=val 4294967296 (l.take k)+val 4294967296 (m.take k)):
 val 4294967296 ((rs.set k ((c+(d+e)) % 4294967296)).take (k+1))+4294967296 ^ (k+1)*((c+(d+e)) / 4294967296)=val 4294967296 (l.take (k+1))+val 4294967296 (m.take (k+1)):=by
 rw[Qoa _ _ _ _ _ _ hk h,Qad,Qad,hd,he,Nat.mul_add];omega
theorem Qe6(B k c d e r c':Nat)(rs l m:List Nat)(hk:k<rs.length)(hd:l.getD k 0=d)(he:m.getD k 0=e)(hr:r+c+e=d+B*c')
 (h:val B (rs.take k)+val B (m.take k)=val B (l.take k)+B ^ k*c):
 val B ((rs.set k r).take (k+1))+val B (m.take (k+1))=val B (l.take (k+1))+B ^ (k+1)*c':=by
 rw[take_set _ _ _ hk,Qal,List.length_take,Nat.min_eq_left (by omega),Qad,Qad,hd,he,Nat.pow_succ];have e2:B ^ k*(r+c+e)=B ^ k*(d+B*c'):=by rw[hr]
 rw[Nat.mul_add,Nat.mul_add,Nat.mul_add,←Nat.mul_assoc] at e2;omega
theorem Qhy(d c e:Nat)(hd:d<4294967296)(he:e<4294967296)(hc:c≤1):∃r c':Nat,r<4294967296∧c'≤1∧r+c+e=d+4294967296*c'∧
 ((((d:Int) - c) % 18446744073709551616 - e) % 18446744073709551616) % 4294967296=(r:Int)∧((((d:Int) - c) % 18446744073709551616 - e) % 18446744073709551616) / 9223372036854775808=(c':Int):=by
 by_cases h:d<c+e
 · exact⟨d+4294967296 - c - e,1,by omega,by omega,by omega,by omega,by omega⟩
 · exact⟨d - c - e,0,by omega,by omega,by omega,by omega,by omega⟩
theorem Qbd(B:Nat)(l:List Nat)(k d:Nat)(h:k<l.length):val B (l.set k d)+B ^ k*l.getD k 0=val B l+B ^ k*d:=by
 have e1:=Qaj B (l.set k d) (k+1) (by simp;omega);have e2:=Qaj B l (k+1) (by omega);rw[take_set _ _ _ h,Qal,List.length_take,Nat.min_eq_left (by omega),List.drop_set_of_lt (by omega)] at e1;rw[Qb0 B l k h] at e2;omega
theorem Qhz(l:List Nat)(k d q:Nat):(l.set k d).take q=(l.take q).set k d:=by
 rw[List.take_set]
theorem Qe7(l:List Nat)(q k:Nat)(h:k<q):(l.take q).getD k 0=l.getD k 0:=by
 rw[List.getD_eq_getElem?_getD,List.getD_eq_getElem?_getD,List.getElem?_take_of_lt h]
theorem Qh0(B p q c t d R:Nat)(rs:List Nat)(hq:q≤rs.length)(hp:p<q)(hd:rs.getD p 0=d)(h:val B (rs.take q)+B ^ p*c=R):
 val B ((rs.set p ((c+(t+d)) % B)).take q)+B ^ (p+1)*((c+(t+d)) / B)=R+B ^ p*t:=by
 rw[Qhz];have e1:=Qbd B (rs.take q) p ((c+(t+d)) % B) (by rw[List.length_take];omega);rw[Qe7 _ _ _ hp,hd] at e1;have e:=Nat.mod_add_div (c+(t+d)) B;have e2:B ^ p*((c+(t+d)) % B+B*((c+(t+d)) / B))=B ^ p*(c+(t+d)):=by rw[e]
 rw[Nat.mul_add,Nat.mul_add,Nat.mul_add,←Nat.mul_assoc] at e2;rw[Nat.pow_succ];omega
theorem Qdh{B d e:Nat}(hd:d<B)(he:e<B):d*e≤(B - 1)*(B - 1):=Nat.mul_le_mul (by omega) (by omega)
theorem Qob(B k i d e t q c z V:Nat)(rs m:List Nat)(ht:t=d*e)(he:m.getD i 0=e)(hq:q≤rs.length)(hp:k+i<q)(hd:rs.getD (k+i) 0=z)
 (h:val B (rs.take q)+B ^ (k+i)*c=V+B ^ k*(d*val B (m.take i))):
 val B ((rs.set (k+i) ((c+(t+z)) % B)).take q)+B ^ (k+(i+1))*((c+(t+z)) / B)=V+B ^ k*(d*val B (m.take (i+1))):=by
 rw[show k+(i+1)=k+i+1 from by omega,Qh0 B (k+i) q c t z _ rs hq hp hd h,Qad,he,ht,Nat.pow_add,Nat.mul_add,Nat.mul_add];rw[Nat.mul_left_comm d (B ^ i) e,←Nat.mul_assoc (B ^ k) (B ^ i) (d*e)];omega
theorem Qoc(B k d c y n:Nat)(rs l:List Nat)(hd:l.getD k 0=d)(hn:k+n<rs.length)
 (h:val B (rs.take (k+n))+B ^ (k+n)*c=val B (l.take k)*y+B ^ k*(d*y)):
 val B ((rs.set (k+n) c).take (k+1+n))=val B (l.take (k+1))*y:=by
 rw[show k+1+n=k+n+1 from by omega,take_set _ _ _ hn,Qal,List.length_take,Nat.min_eq_left (by omega),h,Qad,hd,Nat.add_mul,Nat.mul_assoc]
theorem Qbe(l:List Nat)(k d:Nat)(h:k<l.length):(l.set k d).getD k 0=d:=by
 rw[List.getD_eq_getElem?_getD,List.getElem?_set_self h];rfl
theorem getD_set_ne(l:List Nat)(k d j:Nat)(h:k≠j):(l.set k d).getD j 0=l.getD j 0:=by
 rw[List.getD_eq_getElem?_getD,List.getD_eq_getElem?_getD,List.getElem?_set_ne h]
open Go.RowKit
theorem ce{B:Nat}{w w':World}{b i:Nat}{o:Option Value}(h:Below B w w')(hb:b<B)(hc:w.cell? ⟨b,i,none⟩=o):w'.cell? ⟨b,i,none⟩=o:=(h.cell (p:=⟨b,i,none⟩) hb).trans hc
theorem nm{α:Type}(a:α):∃x,a=x:=⟨_,rfl⟩
theorem gE{α:Type}{l:List α}{i:Nat}(h:i<l.length):l[i]?=some l[i]:=List.getElem?_eq_getElem h
theorem mO{α:Type}{l:List α}{i:Nat}{a:α}(h:l[i]?=some a):a∈l:=List.mem_of_getElem? h
theorem gZ{α:Type}{l:List α}{i:Nat}{a:α}(h:l[i]?=some a):∃k:i<l.length,l[i]=a:=List.getElem?_eq_some_iff.1 h
theorem bC{p:Prop}(h:¬p→False):p:=Classical.byContradiction h
theorem lZ{n:Nat}:n≤n:=Nat.le_refl _
theorem bR{B:Nat}{w:World}:Below B w w:=Below.refl _ _
theorem cM{P:Program}{f:FuncId}{a:Array Value}{w:World}{Q R:Ending→World→Prop}(h:Calls P f a w Q)(k:∀e w',Q e w'→R e w'):Calls P f a w R:=h.mono k
structure Row (k:IntKind) (w:World) (a:Option Addr) (cap:Nat) (l:List Nat):Prop where
 fit:l.length<=cap
 shape:(a=none/\cap=0)∨∃b off,a=some ⟨b,off,none⟩/\b<w.heap.size
 cell:∀i,i<l.length->∃b off,a=some ⟨b,off,none⟩/\b<w.heap.size/\w.cell? ⟨b,off+i,none⟩=some (.int k ((l.getD i 0:Nat):Int))
theorem Row.nil(k:IntKind)(w:World):Row k w none 0 []:=⟨by simp,.inl ⟨rfl,rfl⟩,fun i hi=>by simp at hi⟩
theorem Row.below{k:IntKind}{w w':World}{a:Option Addr}{cap:Nat}{l:List Nat}(h:Row k w a cap l)(hb:Below w.heap.size w w'):Row k w' a cap l:=by
 refine⟨h.fit,?_,fun i hi=>?_⟩
 ·
  rcases h.shape with h1|⟨b,off,rfl,h2⟩
  · exact .inl h1
  · exact .inr ⟨b,off,rfl,by have:=hb.size;omega⟩
 · obtain⟨b,off,h1,h2,h3⟩:=h.cell i hi
   exact⟨b,off,h1,by have:=hb.size;omega,ce hb h2 h3⟩
theorem Row.take{k:IntKind}{w:World}{a:Option Addr}{cap:Nat}{l:List Nat}(h:Row k w a cap l)(n:Nat)(hn:n<=l.length):Row k w a cap (l.take n):=by
 refine⟨by rw[List.length_take];have:=h.fit;omega,h.shape,fun i hi=>?_⟩;rw[List.length_take] at hi;obtain⟨b,off,h1,h2,h3⟩:=h.cell i (by omega);refine⟨b,off,h1,h2,?_⟩;rw[h3,List.getD_eq_getElem?_getD,List.getD_eq_getElem?_getD,List.getElem?_take_of_lt (by omega)]
def wordCells(k:IntKind)(l:List Nat):Array Value:=(l.map (fun n:Nat=>Value.int k n)).toArray
def Blk(k:IntKind)(t:TypeId)(w:World)(g:Nat)(l:List Nat):Prop:=w.heap[g]?=some (.cells (wordCells k l) t (0,0))
theorem Blk.lt{k:IntKind}{t:TypeId}{w:World}{g:Nat}{l:List Nat}(h:Blk k t w g l):g<w.heap.size:=by
 apply bC;intro hc;unfold Blk at h;rw[Array.getElem?_eq_none (by omega)] at h;cases h
theorem Blk.cell{k:IntKind}{t:TypeId}{w:World}{g:Nat}{l:List Nat}(h:Blk k t w g l)(i:Nat)(hi:i<l.length):w.cell? ⟨g,i,none⟩=some (.int k ((l.getD i 0:Nat):Int)):=by
 unfold Blk at h;simp[World.cell?,h,wordCells,hi]
theorem Blk.free{k:IntKind}{t:TypeId}{w:World}{g:Nat}{l:List Nat}(h:Blk k t w g l)(i:Nat):w.frozen? ⟨g,i,none⟩=false:=by
 unfold Blk at h;simp[World.frozen?,h]
theorem Qpx(k:IntKind)(l:List Nat)(i x:Nat):(wordCells k l).setIfInBounds i (.int k (x:Int))=wordCells k (l.set i x):=by
 unfold wordCells;apply Array.ext';simp[List.map_set]
theorem Blk.set{k:IntKind}{t:TypeId}{w:World}{g:Nat}{l:List Nat}(h:Blk k t w g l)(i x:Nat):Blk k t (w.setCell ⟨g,i,none⟩ (.int k (x:Int))) g (l.set i x):=by
 unfold Blk at h ⊢;simp[World.setCell,Array.getElem?_modify,h,<-Qpx]
theorem Blk.other{k:IntKind}{t:TypeId}{w:World}{g g':Nat}{l:List Nat}(h:Blk k t w g l)(hg:g≠g')(i:Nat)(v:Value):Blk k t (w.setCell ⟨g',i,none⟩ v) g l:=by
 unfold Blk at h ⊢;rw[Below.heap_setCell _ _ _ _ hg];exact h
theorem Blk.drew{k:IntKind}{t:TypeId}{w:World}{g:Nat}{l:List Nat}(h:Blk k t w g l):Blk k t w.drew g l:=h
theorem Blk.alloc{k:IntKind}{t:TypeId}{w:World}{g:Nat}{l:List Nat}(h:Blk k t w g l)(o:Obj):Blk k t (w.alloc o) g l:=by
 have:=h.lt;unfold Blk at h ⊢;rw[Below.heap_alloc _ _ _ this];exact h
theorem Blk.below{k:IntKind}{t:TypeId}{w w':World}{g B:Nat}{l:List Nat}(h:Blk k t w g l)(hb:Below B w w')(hg:g<B):Blk k t w' g l:=by
 unfold Blk at h ⊢;rw[hb.block g hg];exact h
theorem Blk.new(k:IntKind)(t:TypeId)(w:World)(l:List Nat):Blk k t (w.alloc (.cells (wordCells k l) t)) w.heap.size l:=by
 show (w.heap.push _)[w.heap.size]?=_
 simp
theorem Blk.row{k:IntKind}{t:TypeId}{w:World}{g:Nat}{l:List Nat}(h:Blk k t w g l)(n:Nat)(hn:n<=l.length)(cap:Nat)(hc:n<=cap):Row k w (some ⟨g,0,none⟩) cap (l.take n):=by
 have hl:=h.lt;refine⟨by rw[List.length_take];omega,.inr ⟨g,0,rfl,hl⟩,fun i hi=>⟨g,0,rfl,hl,?_⟩⟩;rw[List.length_take] at hi;have:=h.cell i (by omega);rw[Nat.zero_add,this,List.getD_eq_getElem?_getD,List.getD_eq_getElem?_getD,List.getElem?_take_of_lt (by omega)]
theorem Qaq(n:Int):IntKind.u64.wrap n=n % 18446744073709551616:=by
 simp[IntKind.wrap,IntKind.signed,IntKind.bits]
def zeros(n:Nat):List Nat:=List.replicate n 0
theorem Qai(n:Nat):(zeros n).length=n:=by unfold zeros;simp
theorem Qap(B n:Nat)(hB:0<B):Small B (zeros n):=Small.replicate B n hB
theorem Qbq(n j:Nat):(zeros n).getD j 0=0:=by
 unfold zeros;rw[List.getD_eq_getElem?_getD,List.getElem?_replicate]
 split<;>rfl
theorem Qdv(B n:Nat):val B (zeros n)=0:=Qn6 B n
theorem Qdw(k:IntKind)(n:Nat):madeCells #[Value.int k 0] n=wordCells k (zeros n):=by
 unfold madeCells wordCells zeros;apply Array.ext
 · simp
 · intro i h1 h2
   simp[Nat.mod_one]
theorem Tryz.info32:(Tryz.prog.info? 155).map (fun i=>(i.zero,i.size,i.bytes))=some (some (.int .u32 0),1,4):=by kernel_rfl
theorem Tryz.info64:(Tryz.prog.info? 123).map (fun i=>(i.zero,i.size,i.bytes))=some (some (.int .u64 0),1,8):=by kernel_rfl
theorem Qa4(L:Int)(n:Nat)(hL:L=n)(hn:n<=2199023255552)(w:World):
 (Instr.makeSlice 51 (.int .i64 L) (.int .i64 L)).run Tryz.prog w=.ok (.slice (some ⟨w.heap.size,0,none⟩) n n) (w.alloc (.cells (wordCells .u32 (zeros n)) 155)):=by
 subst hL;rw[<-Qdw];exact Go.run_make_row' 51 155 (.int .u32 0) 4 Tryz.underlying51 Tryz.info32 rfl .i64 .i64 n (by omega) (by omega) w
structure U32 (w:World) (a:Option Addr) (cap:Nat) (l:List Nat) (n:Nat):Prop where
 row:Row .u32 w a cap l
 num:Num 4294967296 l n
 short:l.length<=1099511627776
theorem U32.below{w w':World}{a:Option Addr}{cap:Nat}{l:List Nat}{n:Nat}(h:U32 w a cap l n)(hb:Below w.heap.size w w'):U32 w' a cap l n:=⟨h.row.below hb,h.num,h.short⟩
set_option maxHeartbeats 400000 in
theorem Qa8(a1 a2:Option Addr)(c1 c2:Nat)(l m:List Nat)(x y:Nat)(w:World)(h1:U32 w a1 c1 l x)(h2:U32 w a2 c2 m y):
 Calls Tryz.prog 75 #[.slice a1 l.length c1,.slice a2 m.length c2] w fun e w'=>e=.returned (.int .i64 (cmp3 x y))/\Below w.heap.size w w':=by
 have s1:=h1.short;have s2:=h2.short;by_cases hlt:l.length<m.length
 ·
  have hne:((l.length:Int) != (m.length:Int))=true:=by rw[bne_iff_ne];omega
  have hr:cmp3 x y= -1:=Qcf (by rw[<-h1.num.eq,<-h2.num.eq];exact Qas (by omega) h1.num.small h2.num.trim hlt);have HR:Hid (cmp3 x y= -1):=hr;clear hr;go_enter Tryz.func75,Tryz.ntmps75;go_wp2;go_ret;exact⟨by rw[HR.out];rfl,Below.refl _ _⟩
 by_cases hgt:m.length<l.length
 ·
  have hne:((l.length:Int) != (m.length:Int))=true:=by rw[bne_iff_ne];omega
  have hr:cmp3 x y=1:=Qde (by rw[<-h1.num.eq,<-h2.num.eq];exact Qas (by omega) h2.num.small h1.num.trim hgt);have HR:Hid (cmp3 x y=1):=hr;clear hr;go_enter Tryz.func75,Tryz.ntmps75;go_wp2;go_ret;exact⟨by rw[HR.out];rfl,Below.refl _ _⟩
 have heq:m.length=l.length:=by omega
 have HE:Hid (m.length=l.length):=heq;rw[heq];have hne:((l.length:Int) != (l.length:Int))=false:=by simp
 clear hlt hgt heq;go_enter Tryz.func75,Tryz.ntmps75;go_wp2;go_loopw [5] (fun i wr=>∃k:Nat,k<=l.length/\i=.int .i64 ((k:Int) - 1)/\l.drop k=m.drop k/\Below w.heap.size w wr) (fun i _=>(intOf i+1).toNat)
 case atStart=>exact⟨l.length,Nat.le_refl _,rfl,by rw[List.drop_of_length_le lZ,List.drop_of_length_le (by rw[HE.out];exact Nat.le_refl _)],Below.refl _ _⟩
 case round=>
  obtain⟨k,hk,rfl,hd,hb⟩:=hrel;have HD:Hid (l.drop k=m.drop k):=hd;clear hd;by_cases h0:k=0
  ·
   subst h0;go_wp2;go_ret;exact⟨by rw[Qhw (by rw[<-h1.num.eq,<-h2.num.eq];have:=HD.out;simp at this;rw[this])];rfl,hb⟩
  ·
   obtain⟨j,rfl⟩:∃j,k=j+1:=⟨k - 1,by omega⟩;have hjl:j<l.length:=by omega
   have hjm:j<m.length:=by have:=HE.out;omega
   obtain⟨b,off,rfl,hb1,hc1⟩:=h1.row.cell j hjl;obtain⟨b',off',rfl,hb2,hc2⟩:=h2.row.cell j hjm;obtain⟨d,hd⟩:=nm (l.getD j 0);obtain⟨e,he⟩:=nm (m.getD j 0);rw[hd] at hc1;rw[he] at hc2;have hc1':=ce hb hb1 hc1;have hc2':=ce hb hb2 hc2;have H1:Hid (l.getD j 0=d):=hd;have H2:Hid (m.getD j 0=e):=he;clear hd he hc1 hc2;have ei:((j+1:Nat):Int) - 1=(j:Int):=by omega
   rw[ei];by_cases hde:d=e
   ·
    subst hde;have hq:((d:Int) != (d:Int))=false:=by simp
    go_wp2;go_region
    all_goals
     go_wp2;go_roundw
     case rel=>exact⟨j,by omega,by go_num,Qhx hjl hjm HD.out (H1.out.trans H2.out.symm),hb.drew⟩
     case measure=>simp[intOf]
   ·
    have hq:((d:Int) != (e:Int))=true:=by rw[bne_iff_ne];omega
    by_cases hlt:d<e
    ·
     go_wp2;go_region
     all_goals
      go_wp2;go_region
     all_goals
      go_wp2;go_ret;exact⟨by rw[Qcf (by rw[<-h1.num.eq,<-h2.num.eq];exact Qdf (by omega) h1.num.small j hjl hjm HD.out (by rw[H1.out,H2.out];exact hlt))];rfl,hb.drew.drew⟩
    ·
     go_wp2;go_region
     all_goals
      go_wp2;go_region
     all_goals
      go_wp2;go_ret;exact⟨by rw[Qde (by rw[<-h1.num.eq,<-h2.num.eq];exact Qdf (by omega) h2.num.small j hjm hjl HD.out.symm (by rw[H1.out,H2.out];omega))];rfl,hb.drew.drew⟩
theorem Ql7(l:List Nat)(k:Nat)(hk:k<=l.length)(h:k=0∨l.getD (k - 1) 0≠0):Trim (l.take k):=by
 rcases h with rfl|h
 · left;simp
 ·
  by_cases h0:k=0
  · left;subst h0;simp
  ·
   right;rw[List.length_take,Nat.min_eq_left hk,List.getD_eq_getElem?_getD,List.getElem?_take_of_lt (by omega),<-List.getD_eq_getElem?_getD];exact h
theorem Ql8(B:Nat)(l:List Nat)(k:Nat)(hk:k<l.length)(h:l.getD k 0=0):val B (l.take (k+1))=val B (l.take k):=by
 rw[Qb0 B l k hk,h];simp
set_option maxHeartbeats 400000 in
theorem Ql9(a:Option Addr)(cap:Nat)(l:List Nat)(w:World)(h:Row .u32 w a cap l)(hl:l.length<=1099511627776):
 Calls Tryz.prog 109 #[.slice a l.length cap] w fun e w'=>(∃k,k<=l.length/\e=.returned (.slice a k cap)/\val 4294967296 (l.take k)=val 4294967296 l/\Trim (l.take k))/\w'=w:=by
 have hcap:=h.fit;go_enter Tryz.func109,Tryz.ntmps109;go_wp2;go_loop [3] (fun n=>∃k:Nat,k<=l.length/\n=.int .i64 k/\val 4294967296 (l.take k)=val 4294967296 l) (fun n=>(intOf n).toNat)
 case atStart=>exact⟨l.length,Nat.le_refl _,rfl,by rw[List.take_length]⟩
 case round=>
  obtain⟨k,hk,rfl,hv⟩:=hrel;have HV:Hid (val 4294967296 (l.take k)=val 4294967296 l):=hv;clear hv;by_cases h0:k=0
  ·
   subst h0;rcases h.shape with ⟨rfl,rfl⟩|⟨b,off,rfl,hb⟩
   all_goals
    go_wp2;go_ret;exact⟨⟨0,by omega,by simp,HV.out,.inl (by simp)⟩,rfl⟩
  ·
   obtain⟨b,off,rfl,hb,hc⟩:=h.cell (k - 1) (by omega);obtain⟨j,rfl⟩:∃j,k=j+1:=⟨k - 1,by omega⟩;simp only[Nat.add_sub_cancel] at hc;obtain⟨d,hd⟩:=nm (l.getD j 0);rw[hd] at hc;have HD:Hid (l.getD j 0=d):=hd;clear hd;by_cases hz:d=0
   ·
    subst hz;go_wp2;go_round
    case rel=>exact⟨j,by omega,by go_num,(Ql8 _ l j (by omega) HD.out).symm.trans HV.out⟩
    case measure=>simp[intOf]
   ·
    have hz':((d:Int) == 0)=false:=by simp;omega
    go_wp2;go_ret;exact⟨⟨j+1,hk,by simp,HV.out,Ql7 l (j+1) hk (.inr (by rw[Nat.add_sub_cancel,HD.out];exact hz))⟩,rfl⟩
theorem Qax(g n cap x:Nat)(rs:List Nat)(w:World)(h:Blk .u32 155 w g rs)(hl:rs.length=n)(hs:Small 4294967296 rs)(hc:n<=cap)(hn:n<=1099511627776)(hx:val 4294967296 rs=x):
 Calls Tryz.prog 109 #[.slice (some ⟨g,0,none⟩) n cap] w fun e w'=>(∃a cap r,e=.returned (.slice a r.length cap)/\U32 w a cap r x)/\w'=w:=by
 have hR:=h.row n (by omega) cap hc;rw[List.take_of_length_le (by omega)] at hR;have hT:=Ql9 (some ⟨g,0,none⟩) cap rs w hR (by omega);rw[hl] at hT;refine hT.mono ?_;rintro e w1 ⟨⟨q,hq,rfl,hqv,hqt⟩,rfl⟩;have hql:(rs.take q).length=q:=by rw[List.length_take];omega
 exact⟨⟨_,cap,rs.take q,by rw[hql],hR.take q (by omega),⟨hs.take q,hqt,hqv.trans hx⟩,by rw[hql];omega⟩,rfl⟩
end Go.Proofs.YtfpcipgoedifaaaGreatDoor
