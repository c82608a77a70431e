import Derived.Test.YtkkadnoecklepaaGreatDoorChecked
import Derived.WalkKit
import Derived.Below
import Derived.OwnWalk
import Derived.Outline
import Derived.Deep.OwnRows
import Derived.RegionTactic
import Derived.ChangeAlike
import Derived.Laws.AppendOwnNone
import Derived.Laws.BitsAllLaws
namespace Go.Proofs.YtkkadnoecklepaaGreatDoor
open Go.RowKit
open Go.Proofs.Tryz
set_option linter.unusedSimpArgs false
set_option linter.unusedVariables false
set_option maxHeartbeats 8000000
set_option maxRecDepth 1000000
def val(B:Nat):List Nat→Nat
 | []=>0
 |d :: l=>d+B*val B l
theorem Qdf(B:Nat):val B []=0:=rfl
theorem Qbo(B d:Nat)(l:List Nat):val B (d :: l)=d+B*val B l:=rfl
theorem Qdg(B:Nat)(l m:List Nat):val B (l++m)=val B l+B ^ l.length*val B m:=by
 induction l with
 |nil=>simp[val]
 |cons d l a=>
  simp only[List.cons_append,val,a,List.length_cons,Nat.pow_succ,Nat.mul_add,Nat.add_assoc];rw[Nat.mul_comm (B ^ l.length) B,Nat.mul_assoc]
theorem Qal(B:Nat)(l:List Nat)(d:Nat):val B (l++ [d])=val B l+B ^ l.length*d:=by
 rw[Qdg];simp[val]
def Small(B:Nat)(l:List Nat):Prop:=∀d,d∈ l→d<B
theorem Small.nil(B:Nat):Small B []:=fun d h=>by cases h
theorem Small.append{B:Nat}{l m:List Nat}(h:Small B l)(k:Small B m):Small B (l++m):=fun d b=>by
 rcases List.mem_append.1 b with a|a
 · exact h d a
 · exact k d a
theorem Small.take{B:Nat}{l:List Nat}(h:Small B l)(n:Nat):Small B (l.take n):=fun d a=>h d (List.mem_of_mem_take a)
theorem Small.drop{B:Nat}{l:List Nat}(h:Small B l)(n:Nat):Small B (l.drop n):=fun d a=>h d (List.mem_of_mem_drop a)
theorem Small.set{B:Nat}{l:List Nat}(h:Small B l)(i:Nat){d:Nat}(k:d<B):Small B (l.set i d):=fun e b=>by
 rcases List.mem_or_eq_of_mem_set b with a|a
 · exact h e a
 · subst a;exact k
theorem Small.getD{B:Nat}{l:List Nat}(h:Small B l)(hB:0<B)(i:Nat):l.getD i 0<B:=by
 by_cases a:i<l.length
 · rw[List.getD_eq_getElem?_getD,List.getElem?_eq_getElem a]
   exact h _ (List.getElem_mem a)
 · rw[List.getD_eq_getElem?_getD,List.getElem?_eq_none (by omega)]
   exact hB
theorem Small.replicate(B n:Nat)(hB:0<B):Small B (List.replicate n 0):=fun d a=>by
 have:=List.eq_of_mem_replicate a;omega
theorem Qab{B:Nat}{l:List Nat}(hB:0<B)(h:Small B l):val B l<B ^ l.length:=by
 induction l with
 |nil=>simp[val]
 |cons d l a=>
  have b:=a (fun e c=>h e (List.mem_cons_of_mem _ c));have g:=h d (List.mem_cons_self ..);simp only[val,List.length_cons,Nat.pow_succ];rw[Nat.mul_comm (B ^ l.length) B];have f:B*(val B l+1)≤B*B ^ l.length:=Nat.mul_le_mul_left B b;rw[Nat.mul_add] at f;omega
theorem Qnc(B n:Nat):val B (List.replicate n 0)=0:=by
 induction n with
 |zero=>rfl
 |succ n a=>simp[List.replicate_succ,val,a]
theorem Qb5(B:Nat)(l:List Nat)(k:Nat)(h:k<l.length):val B (l.take (k+1))=val B (l.take k)+B ^ k*l.getD k 0:=by
 rw[List.take_succ_eq_append_getElem h,Qal,List.length_take,Nat.min_eq_left (by omega),List.getD_eq_getElem?_getD,List.getElem?_eq_getElem h];rfl
theorem Qa5(B:Nat)(l:List Nat)(k:Nat)(h:l.length≤k):val B (l.take k)=val B l:=by
 rw[List.take_of_length_le h]
theorem Qae(B:Nat)(l:List Nat)(k:Nat):val B (l.take (k+1))=val B (l.take k)+B ^ k*l.getD k 0:=by
 by_cases h:k<l.length
 · exact Qb5 B l k h
 · rw[Qa5 _ _ _ (by omega),Qa5 _ _ _ (by omega),List.getD_eq_getElem?_getD,List.getElem?_eq_none (by omega)]
   simp
theorem Qaj(B:Nat)(l:List Nat)(k:Nat)(h:k≤l.length):val B l=val B (l.take k)+B ^ k*val B (l.drop k):=by
 conv=>lhs;rw[←List.take_append_drop k l]
 rw[Qdg,List.length_take,Nat.min_eq_left h]
theorem Qcq(l:List Nat)(k:Nat)(h:k<l.length):l.drop k=l.getD k 0 :: l.drop (k+1):=by
 rw[List.drop_eq_getElem_cons h,List.getD_eq_getElem?_getD,List.getElem?_eq_getElem h];rfl
theorem Qap(B:Nat)(l:List Nat)(k:Nat)(h:k<l.length):val B (l.drop k)=l.getD k 0+B*val B (l.drop (k+1)):=by
 rw[Qcq l k h,Qbo]
theorem take_set(l:List Nat)(k d:Nat)(h:k<l.length):(l.set k d).take (k+1)=l.take k++ [d]:=by
 rw[List.take_succ_eq_append_getElem (by simpa using h),List.take_set_of_le (Nat.le_refl _)];simp
def Trim(l:List Nat):Prop:=l= []∨l.getD (l.length - 1) 0≠0
theorem Trim.pow_le{B:Nat}{l:List Nat}(h:Trim l)(hl:0<l.length):B ^ (l.length - 1)≤val B l:=by
 rcases h with rfl|h
 · simp at hl
 ·
  have e:=Qaj B l (l.length - 1) (by omega);have a:=Qap B l (l.length - 1) (by omega);rw[e,a];have b:1≤l.getD (l.length - 1) 0+B*val B (l.drop (l.length - 1+1)):=by omega
  have:=Nat.mul_le_mul_left (B ^ (l.length - 1)) b;omega
theorem Qnd{B:Nat}{l:List Nat}(hB:0<B)(h:Trim l):val B l=0↔l= []:=by
 constructor
 ·
  intro e;by_cases hl:0<l.length
  ·
   have a:=h.pow_le (B:=B) hl;have b:0<B ^ (l.length - 1):=Nat.pow_pos hB;omega
  · exact List.eq_nil_of_length_eq_zero (by omega)
 · rintro rfl;rfl
theorem Qb6{B:Nat}(hB:0<B){m n:Nat}(h:m≤n):B ^ m≤B ^ n:=Nat.pow_le_pow_right hB h
theorem Qau{B:Nat}{l m:List Nat}(hB:0<B)(hl:Small B l)(a:Trim m)(h:l.length<m.length):val B l<val B m:=by
 have b:=Qab hB hl;have c:=a.pow_le (B:=B) (by omega);have d:=Qb6 hB (show l.length≤m.length - 1 by omega);omega
theorem Qho{B:Nat}{d:Nat}{x:Nat}(h:d<B):(d+B*x) % B=d:=by
 rw[Nat.add_mul_mod_self_left,Nat.mod_eq_of_lt h]
theorem Qhp{B:Nat}{d:Nat}{x:Nat}(h:d<B):(d+B*x) / B=x:=by
 rw[Nat.add_mul_div_left _ _ (by omega),Nat.div_eq_of_lt h,Nat.zero_add]
theorem Qhq{B:Nat}:∀{l m:List Nat},Small B l→Small B m→l.length=m.length→val B l=val B m→l=m
 | [],[],_,_,_,_=>rfl
 | [],_ :: _,_,_,h,_=>by simp at h
 |_ :: _,[],_,_,h,_=>by simp at h
 |d :: l,e :: m,h1,h2,h3,h4=>by
  have b:=h1 d (List.mem_cons_self ..);have c:=h2 e (List.mem_cons_self ..);simp only[val] at h4;have f:d=e:=by rw[←Qho (x:=val B l) b,←Qho (x:=val B m) c,h4]
  have g:val B l=val B m:=by rw[←Qhp (x:=val B l) b,←Qhp (x:=val B m) c,h4]
  rw[f,Qhq (fun x a=>h1 x (List.mem_cons_of_mem _ a)) (fun x a=>h2 x (List.mem_cons_of_mem _ a)) (by simpa using h3) g]
structure Num (B:Nat) (l:List Nat) (n:Nat):Prop where
 small:Small B l
 trim:Trim l
 eq:val B l=n
theorem Num.inj{B:Nat}{l m:List Nat}{n:Nat}(hB:0<B)(h:Num B l n)(k:Num B m n):l=m:=by
 have e:l.length=m.length:=by
  rcases Nat.lt_trichotomy l.length m.length with a|a|a
  · have:=Qau hB h.small k.trim a;have:=h.eq;have:=k.eq;omega
  · exact a
  · have:=Qau hB k.small h.trim a;have:=h.eq;have:=k.eq;omega
 exact Qhq h.small k.small e (h.eq.trans k.eq.symm)
theorem Num.zero(B:Nat):Num B [] 0:=⟨Small.nil B,.inl rfl,rfl⟩
theorem Num.nil_iff{B:Nat}{l:List Nat}{n:Nat}(hB:0<B)(h:Num B l n):n=0↔l= []:=by
 rw[←h.eq];exact Qnd hB h.trim
theorem Num.len_zero{B:Nat}{l:List Nat}{n:Nat}(hB:0<B)(h:Num B l n):n=0↔l.length=0:=by
 rw[h.nil_iff hB];exact List.length_eq_zero_iff.symm
theorem Num.length_le_of_lt{B:Nat}{l:List Nat}{n k:Nat}(hB:0<B)(h:Num B l n)(b:n<B ^ k):l.length≤k:=by
 apply Classical.byContradiction;intro c;have a:=h.trim.pow_le (B:=B) (by omega);have d:=Qb6 hB (show k≤l.length - 1 by omega);rw[h.eq] at a;omega
def nb(n:Nat):Nat:=if n=0 then 0 else n.log2+1
theorem Qe8(n:Nat):n<2 ^ nb n:=by
 unfold nb
 split
 · omega
 · exact Nat.lt_log2_self
theorem nb_le{n k:Nat}(h:n<2 ^ k):nb n≤k:=by
 unfold nb
 split
 · omega
 · rename_i a
   exact(Nat.log2_lt a).2 h
theorem Qne:nb 0=0:=rfl
theorem Qdh{n:Nat}(h:0<n):1≤nb n:=by unfold nb;rw[if_neg (by omega)];omega
theorem Qhr{n k:Nat}(h:k<nb n):2 ^ k≤n:=by
 apply Classical.byContradiction;intro a;have:=nb_le (n:=n) (k:=k) (by omega);omega
theorem Num.nb_le{q:Nat}{l:List Nat}{n:Nat}(h:Num (2 ^ q) l n):nb n≤q*l.length:=by
 apply Go.Proofs.YtkkadnoecklepaaGreatDoor.nb_le;have:=Qab (Nat.pow_pos (by omega)) h.small;rw[h.eq,←Nat.pow_mul] at this;exact this
def cmp3(x y:Nat):Int:=if x<y then -1 else if x=y then 0 else 1
theorem Qcr{x y:Nat}(h:x<y):cmp3 x y= -1:=by unfold cmp3;rw[if_pos h]
theorem Qhs{x y:Nat}(h:x=y):cmp3 x y=0:=by unfold cmp3;rw[if_neg (by omega),if_pos h]
theorem Qdi{x y:Nat}(h:y<x):cmp3 x y=1:=by unfold cmp3;rw[if_neg (by omega),if_neg (by omega)]
theorem Qav(x y:Nat):cmp3 x y<0↔x<y:=by
 unfold cmp3
 split
 · simp;assumption
 · split<;>simp<;>omega
theorem Qnf(x y:Nat): -1≤cmp3 x y∧cmp3 x y≤1:=by
 unfold cmp3
 split
 · omega
 · split<;>omega
theorem Qdj{B:Nat}(hB:0<B){l m:List Nat}(hl:Small B l)(j:Nat)(a:j<l.length)(b:j<m.length)(c:l.drop (j+1)=m.drop (j+1))(h:l.getD j 0<m.getD j 0):val B l<val B m:=by
 rw[Qaj B l j (by omega),Qaj B m j (by omega),Qap B l j a,Qap B m j b,c];have d:=Qab hB (hl.take j);rw[List.length_take,Nat.min_eq_left (by omega)] at d;have e:B ^ j*(l.getD j 0+B*val B (m.drop (j+1))+1)≤B ^ j*(m.getD j 0+B*val B (m.drop (j+1))):=Nat.mul_le_mul_left _ (by omega);rw[Nat.mul_add _ _ 1] at e;omega
theorem Qht{l m:List Nat}{j:Nat}(a:j<l.length)(b:j<m.length)(c:l.drop (j+1)=m.drop (j+1))(h:l.getD j 0=m.getD j 0):l.drop j=m.drop j:=by
 rw[Qcq l j a,Qcq m j b,c,h]
theorem Qng(B k c t R:Nat)(rs:List Nat)(hk:k<rs.length)(h:val B (rs.take k)+B ^ k*c=R):
 val B ((rs.set k ((c+t) % B)).take (k+1))+B ^ (k+1)*((c+t) / B)=R+B ^ k*t:=by
 rw[take_set _ _ _ hk,Qal,List.length_take,Nat.min_eq_left (by omega),Nat.pow_succ];have e:=Nat.mod_add_div (c+t) B;have a:B ^ k*((c+t) % B+B*((c+t) / B))=B ^ k*(c+t):=by rw[e]
 rw[Nat.mul_add,Nat.mul_add,←Nat.mul_assoc] at a;omega
theorem Qbp(l:List Nat)(k:Nat)(h:l.length≤k):l.getD k 0=0:=by
 rw[List.getD_eq_getElem?_getD,List.getElem?_eq_none h];rfl
theorem Qe9(B:Nat)(rs:List Nat)(n c:Nat)(h:rs.length=n+1):val B (rs.set n c)=val B (rs.take n)+B ^ n*c:=by
 rw[←Qa5 B (rs.set n c) (n+1) (by simp;omega),take_set _ _ _ (by omega),Qal,List.length_take,Nat.min_eq_left (by omega)]
theorem Qdk(k c d e:Nat)(rs l m:List Nat)(hk:k<rs.length)(a:l.getD k 0=d)(b:m.getD k 0=e)
 (h:val 4294967296 (rs.take k)+4294967296 ^ k*c=val 4294967296 (l.take k)+val 4294967296 (m.take k)):
 val 4294967296 ((rs.set k ((c+(d+e)) % 4294967296)).take (k+1))+4294967296 ^ (k+1)*((c+(d+e)) / 4294967296)=val 4294967296 (l.take (k+1))+val 4294967296 (m.take (k+1)):=by
 rw[Qng _ _ _ _ _ _ hk h,Qae,Qae,a,b,Nat.mul_add];omega
theorem Qfa(B k c d e r a:Nat)(rs l m:List Nat)(hk:k<rs.length)(b:l.getD k 0=d)(f:m.getD k 0=e)(g:r+c+e=d+B*a)
 (h:val B (rs.take k)+val B (m.take k)=val B (l.take k)+B ^ k*c):
 val B ((rs.set k r).take (k+1))+val B (m.take (k+1))=val B (l.take (k+1))+B ^ (k+1)*a:=by
 rw[take_set _ _ _ hk,Qal,List.length_take,Nat.min_eq_left (by omega),Qae,Qae,b,f,Nat.pow_succ];have i:B ^ k*(r+c+e)=B ^ k*(d+B*a):=by rw[g]
 rw[Nat.mul_add,Nat.mul_add,Nat.mul_add,←Nat.mul_assoc] at i;omega
theorem Qhu(d c e:Nat)(b:d<4294967296)(f:e<4294967296)(g:c≤1):∃r a:Nat,r<4294967296∧a≤1∧r+c+e=d+4294967296*a∧
 ((((d:Int) - c) % 18446744073709551616 - e) % 18446744073709551616) % 4294967296=(r:Int)∧((((d:Int) - c) % 18446744073709551616 - e) % 18446744073709551616) / 9223372036854775808=(a:Int):=by
 by_cases h:d<c+e
 · exact⟨d+4294967296 - c - e,1,by omega,by omega,by omega,by omega,by omega⟩
 · exact⟨d - c - e,0,by omega,by omega,by omega,by omega,by omega⟩
theorem Qbe(B:Nat)(l:List Nat)(k d:Nat)(h:k<l.length):val B (l.set k d)+B ^ k*l.getD k 0=val B l+B ^ k*d:=by
 have a:=Qaj B (l.set k d) (k+1) (by simp;omega);have b:=Qaj B l (k+1) (by omega);rw[take_set _ _ _ h,Qal,List.length_take,Nat.min_eq_left (by omega),List.drop_set_of_lt (by omega)] at a;rw[Qb5 B l k h] at b;omega
theorem Qhv(l:List Nat)(k d q:Nat):(l.set k d).take q=(l.take q).set k d:=by
 rw[List.take_set]
theorem Qfb(l:List Nat)(q k:Nat)(h:k<q):(l.take q).getD k 0=l.getD k 0:=by
 rw[List.getD_eq_getElem?_getD,List.getD_eq_getElem?_getD,List.getElem?_take_of_lt h]
theorem Qhw(B p q c t d R:Nat)(rs:List Nat)(i:q≤rs.length)(a:p<q)(b:rs.getD p 0=d)(h:val B (rs.take q)+B ^ p*c=R):
 val B ((rs.set p ((c+(t+d)) % B)).take q)+B ^ (p+1)*((c+(t+d)) / B)=R+B ^ p*t:=by
 rw[Qhv];have f:=Qbe B (rs.take q) p ((c+(t+d)) % B) (by rw[List.length_take];omega);rw[Qfb _ _ _ a,b] at f;have e:=Nat.mod_add_div (c+(t+d)) B;have g:B ^ p*((c+(t+d)) % B+B*((c+(t+d)) / B))=B ^ p*(c+(t+d)):=by rw[e]
 rw[Nat.mul_add,Nat.mul_add,Nat.mul_add,←Nat.mul_assoc] at g;rw[Nat.pow_succ];omega
theorem Qdl{B d e:Nat}(a:d<B)(b:e<B):d*e≤(B - 1)*(B - 1):=Nat.mul_le_mul (by omega) (by omega)
theorem Qnh(B k i d e t q c z V:Nat)(rs m:List Nat)(a:t=d*e)(b:m.getD i 0=e)(f:q≤rs.length)(g:k+i<q)(j:rs.getD (k+i) 0=z)
 (h:val B (rs.take q)+B ^ (k+i)*c=V+B ^ k*(d*val B (m.take i))):
 val B ((rs.set (k+i) ((c+(t+z)) % B)).take q)+B ^ (k+(i+1))*((c+(t+z)) / B)=V+B ^ k*(d*val B (m.take (i+1))):=by
 rw[show k+(i+1)=k+i+1 from by omega,Qhw B (k+i) q c t z _ rs f g j h,Qae,b,a,Nat.pow_add,Nat.mul_add,Nat.mul_add];rw[Nat.mul_left_comm d (B ^ i) e,←Nat.mul_assoc (B ^ k) (B ^ i) (d*e)];omega
theorem Qni(B k d c y n:Nat)(rs l:List Nat)(a:l.getD k 0=d)(b:k+n<rs.length)
 (h:val B (rs.take (k+n))+B ^ (k+n)*c=val B (l.take k)*y+B ^ k*(d*y)):
 val B ((rs.set (k+n) c).take (k+1+n))=val B (l.take (k+1))*y:=by
 rw[show k+1+n=k+n+1 from by omega,take_set _ _ _ b,Qal,List.length_take,Nat.min_eq_left (by omega),h,Qae,a,Nat.add_mul,Nat.mul_assoc]
theorem Qbf(l:List Nat)(k d:Nat)(h:k<l.length):(l.set k d).getD k 0=d:=by
 rw[List.getD_eq_getElem?_getD,List.getElem?_set_self h];rfl
theorem getD_set_ne(l:List Nat)(k d j:Nat)(h:k≠j):(l.set k d).getD j 0=l.getD j 0:=by
 rw[List.getD_eq_getElem?_getD,List.getD_eq_getElem?_getD,List.getElem?_set_ne h]
abbrev Vz:=World
abbrev Vy:=List Nat
abbrev Vx:=Option Addr
abbrev Vw:=Array Value
abbrev Vv:=List Value
abbrev Vu:=List UInt8
abbrev Vt:=List ByteArray
abbrev Vs:=ByteArray
abbrev Vr:=TypeId
theorem sA{α:Type}{l:List α}{i:Nat}{a:α}:l.toArray.setIfInBounds i a=(l.set i a).toArray:=by simp
theorem sB{α:Type}{a b:α}{l:List α}:(a::l).set 0 b=b::l:=rfl
theorem sC{α:Type}{a b:α}{l:List α}{n:Nat}:(a::l).set (n+1) b=a::l.set n b:=rfl
abbrev Bl(w w':Vz):=Below w.heap.size w w'
theorem mH{α:Type}{a:α}{l:List α}:a∈a::l:=.head _
theorem mT{α:Type}{a b:α}{l:List α}(h:a∈l):a∈b::l:=.tail _ h
def O(p:Prop):Prop:=p
theorem O.o{p:Prop}(h:O p):p:=h
theorem Hi{p:Prop}(h:p):O p:=h
theorem ce{B:Nat}{w a:Vz}{b i:Nat}{o:Option Value}(h:Below B w a)(c:b<B)(d:w.cell? ⟨b,i,none⟩=o):a.cell? ⟨b,i,none⟩=o:=(h.cell (p:=⟨b,i,none⟩) c).trans d
theorem nm{α:Type}(a:α):∃x,a=x:=⟨_,rfl⟩
theorem Ia{a b:Prop}(c:a)(d:b):O a∧O b:=⟨c,d⟩
theorem Ja{B:Nat}{w a:Vz}{b:Nat}{c d:Nat}{e f:Option Value}(h:Below B w a)(k:b<B)(g:w.cell? ⟨b,c,none⟩=e)(i:w.cell? ⟨b,d,none⟩=f):a.cell? ⟨b,c,none⟩=e∧a.cell? ⟨b,d,none⟩=f:=⟨ce h k g,ce h k i⟩
theorem Ib{a b c:Prop}(d:a)(e:b)(f:c):O a∧O b∧O c:=⟨d,e,f⟩
theorem Jb{B:Nat}{w a:Vz}{b:Nat}{c d e:Nat}{f g i:Option Value}(h:Below B w a)(k:b<B)(j:w.cell? ⟨b,c,none⟩=f)(l:w.cell? ⟨b,d,none⟩=g)(m:w.cell? ⟨b,e,none⟩=i):a.cell? ⟨b,c,none⟩=f∧a.cell? ⟨b,d,none⟩=g∧a.cell? ⟨b,e,none⟩=i:=⟨ce h k j,ce h k l,ce h k m⟩
theorem Ic{a b c d:Prop}(e:a)(f:b)(g:c)(h:d):O a∧O b∧O c∧O d:=⟨e,f,g,h⟩
theorem Jc{B:Nat}{w a:Vz}{b:Nat}{c d e f:Nat}{g i j l:Option Value}(h:Below B w a)(k:b<B)(m:w.cell? ⟨b,c,none⟩=g)(n:w.cell? ⟨b,d,none⟩=i)(o:w.cell? ⟨b,e,none⟩=j)(p:w.cell? ⟨b,f,none⟩=l):a.cell? ⟨b,c,none⟩=g∧a.cell? ⟨b,d,none⟩=i∧a.cell? ⟨b,e,none⟩=j∧a.cell? ⟨b,f,none⟩=l:=⟨ce h k m,ce h k n,ce h k o,ce h k p⟩
theorem Id{a b c d e:Prop}(f:a)(g:b)(h:c)(i:d)(j:e):O a∧O b∧O c∧O d∧O e:=⟨f,g,h,i,j⟩
theorem Jd{B:Nat}{w a:Vz}{b:Nat}{c d e f g:Nat}{i j l m n:Option Value}(h:Below B w a)(k:b<B)(o:w.cell? ⟨b,c,none⟩=i)(p:w.cell? ⟨b,d,none⟩=j)(q:w.cell? ⟨b,e,none⟩=l)(r:w.cell? ⟨b,f,none⟩=m)(s:w.cell? ⟨b,g,none⟩=n):a.cell? ⟨b,c,none⟩=i∧a.cell? ⟨b,d,none⟩=j∧a.cell? ⟨b,e,none⟩=l∧a.cell? ⟨b,f,none⟩=m∧a.cell? ⟨b,g,none⟩=n:=⟨ce h k o,ce h k p,ce h k q,ce h k r,ce h k s⟩
theorem Ie{a b c d e f:Prop}(g:a)(h:b)(i:c)(j:d)(k:e)(l:f):O a∧O b∧O c∧O d∧O e∧O f:=⟨g,h,i,j,k,l⟩
theorem Je{B:Nat}{w a:Vz}{b:Nat}{c d e f g i:Nat}{j l m n o p:Option Value}(h:Below B w a)(k:b<B)(q:w.cell? ⟨b,c,none⟩=j)(r:w.cell? ⟨b,d,none⟩=l)(s:w.cell? ⟨b,e,none⟩=m)(t:w.cell? ⟨b,f,none⟩=n)(u:w.cell? ⟨b,g,none⟩=o)(v:w.cell? ⟨b,i,none⟩=p):a.cell? ⟨b,c,none⟩=j∧a.cell? ⟨b,d,none⟩=l∧a.cell? ⟨b,e,none⟩=m∧a.cell? ⟨b,f,none⟩=n∧a.cell? ⟨b,g,none⟩=o∧a.cell? ⟨b,i,none⟩=p:=⟨ce h k q,ce h k r,ce h k s,ce h k t,ce h k u,ce h k v⟩
theorem If{a b c d e f g:Prop}(h:a)(i:b)(j:c)(k:d)(l:e)(m:f)(n:g):O a∧O b∧O c∧O d∧O e∧O f∧O g:=⟨h,i,j,k,l,m,n⟩
theorem Jf{B:Nat}{w a:Vz}{b:Nat}{c d e f g i j:Nat}{l m n o p q r:Option Value}(h:Below B w a)(k:b<B)(s:w.cell? ⟨b,c,none⟩=l)(t:w.cell? ⟨b,d,none⟩=m)(u:w.cell? ⟨b,e,none⟩=n)(v:w.cell? ⟨b,f,none⟩=o)(x:w.cell? ⟨b,g,none⟩=p)(y:w.cell? ⟨b,i,none⟩=q)(z:w.cell? ⟨b,j,none⟩=r):a.cell? ⟨b,c,none⟩=l∧a.cell? ⟨b,d,none⟩=m∧a.cell? ⟨b,e,none⟩=n∧a.cell? ⟨b,f,none⟩=o∧a.cell? ⟨b,g,none⟩=p∧a.cell? ⟨b,i,none⟩=q∧a.cell? ⟨b,j,none⟩=r:=⟨ce h k s,ce h k t,ce h k u,ce h k v,ce h k x,ce h k y,ce h k z⟩
theorem Ig{a b c d e f g h:Prop}(i:a)(j:b)(k:c)(l:d)(m:e)(n:f)(o:g)(p:h):O a∧O b∧O c∧O d∧O e∧O f∧O g∧O h:=⟨i,j,k,l,m,n,o,p⟩
theorem Jg{B:Nat}{w a:Vz}{b:Nat}{c d e f g i j l:Nat}{m n o p q r s t:Option Value}(h:Below B w a)(k:b<B)(u:w.cell? ⟨b,c,none⟩=m)(v:w.cell? ⟨b,d,none⟩=n)(x:w.cell? ⟨b,e,none⟩=o)(y:w.cell? ⟨b,f,none⟩=p)(z:w.cell? ⟨b,g,none⟩=q)(A:w.cell? ⟨b,i,none⟩=r)(C:w.cell? ⟨b,j,none⟩=s)(D:w.cell? ⟨b,l,none⟩=t):a.cell? ⟨b,c,none⟩=m∧a.cell? ⟨b,d,none⟩=n∧a.cell? ⟨b,e,none⟩=o∧a.cell? ⟨b,f,none⟩=p∧a.cell? ⟨b,g,none⟩=q∧a.cell? ⟨b,i,none⟩=r∧a.cell? ⟨b,j,none⟩=s∧a.cell? ⟨b,l,none⟩=t:=⟨ce h k u,ce h k v,ce h k x,ce h k y,ce h k z,ce h k A,ce h k C,ce h k D⟩
theorem Ih{a b c d e f g h i:Prop}(j:a)(k:b)(l:c)(m:d)(n:e)(o:f)(p:g)(q:h)(r:i):O a∧O b∧O c∧O d∧O e∧O f∧O g∧O h∧O i:=⟨j,k,l,m,n,o,p,q,r⟩
theorem Jh{B:Nat}{w a:Vz}{b:Nat}{c d e f g i j l m:Nat}{n o p q r s t u v:Option Value}(h:Below B w a)(k:b<B)(x:w.cell? ⟨b,c,none⟩=n)(y:w.cell? ⟨b,d,none⟩=o)(z:w.cell? ⟨b,e,none⟩=p)(A:w.cell? ⟨b,f,none⟩=q)(C:w.cell? ⟨b,g,none⟩=r)(D:w.cell? ⟨b,i,none⟩=s)(E:w.cell? ⟨b,j,none⟩=t)(F:w.cell? ⟨b,l,none⟩=u)(G:w.cell? ⟨b,m,none⟩=v):a.cell? ⟨b,c,none⟩=n∧a.cell? ⟨b,d,none⟩=o∧a.cell? ⟨b,e,none⟩=p∧a.cell? ⟨b,f,none⟩=q∧a.cell? ⟨b,g,none⟩=r∧a.cell? ⟨b,i,none⟩=s∧a.cell? ⟨b,j,none⟩=t∧a.cell? ⟨b,l,none⟩=u∧a.cell? ⟨b,m,none⟩=v:=⟨ce h k x,ce h k y,ce h k z,ce h k A,ce h k C,ce h k D,ce h k E,ce h k F,ce h k G⟩
theorem gE{α:Type}{l:List α}{i:Nat}(h:i<l.length):l[i]?=some l[i]:=List.getElem?_eq_getElem h
theorem mO{α:Type}{l:List α}{i:Nat}{a:α}(h:l[i]?=some a):a∈l:=List.mem_of_getElem? h
theorem gZ{α:Type}{l:List α}{i:Nat}{a:α}(h:l[i]?=some a):∃k:i<l.length,l[i]=a:=List.getElem?_eq_some_iff.1 h
theorem bC{p:Prop}(h:¬p→False):p:=Classical.byContradiction h
theorem lZ{n:Nat}:n≤n:=Nat.le_refl _
theorem bR{B:Nat}{w:Vz}:Below B w w:=Below.refl _ _
theorem cM{P:Program}{f:FuncId}{a:Vw}{w:Vz}{Q R:Ending→World→Prop}(h:Calls P f a w Q)(k:∀e b,Q e b→R e b):Calls P f a w R:=h.mono k
structure Row (k:IntKind) (w:Vz) (a:Vx) (cap:Nat) (l:Vy):Prop where
 fit:l.length<=cap
 shape:(a=none/\cap=0)∨∃b off,a=some ⟨b,off,none⟩/\b<w.heap.size
 cell:∀i,i<l.length->∃b off,a=some ⟨b,off,none⟩/\b<w.heap.size/\w.cell? ⟨b,off+i,none⟩=some (.int k ((l.getD i 0:Nat):Int))
theorem Row.nil(k:IntKind)(w:Vz):Row k w none 0 []:=⟨by simp,.inl ⟨rfl,rfl⟩,fun i a=>by simp at a⟩
theorem Row.below{k:IntKind}{w g:Vz}{a:Vx}{d:Nat}{l:Vy}(h:Row k w a d l)(e:Below w.heap.size w g):Row k g a d l:=by
 refine⟨h.fit,?_,fun i m=>?_⟩
 .
  rcases h.shape with f|⟨b,c,rfl,j⟩
  . exact .inl f
  . exact .inr ⟨b,c,rfl,by have:=e.size;omega⟩
 . obtain⟨b,c,f,j,n⟩:=h.cell i m
   exact⟨b,c,f,by have:=e.size;omega,ce e j n⟩
theorem Row.take{k:IntKind}{w:Vz}{a:Vx}{c:Nat}{l:Vy}(h:Row k w a c l)(n:Nat)(m:n<=l.length):Row k w a c (l.take n):=by
 refine⟨by rw[List.length_take];have:=h.fit;omega,h.shape,fun i e=>?_⟩;rw[List.length_take] at e;obtain⟨b,d,f,g,j⟩:=h.cell i (by omega);refine⟨b,d,f,g,?_⟩;rw[j,List.getD_eq_getElem?_getD,List.getD_eq_getElem?_getD,List.getElem?_take_of_lt (by omega)]
def wordCells(k:IntKind)(l:Vy):Array Value:=(l.map (fun n:Nat=>Value.int k n)).toArray
def Blk(k:IntKind)(t:Vr)(w:Vz)(g:Nat)(l:Vy):Prop:=w.heap[g]?=some (.cells (wordCells k l) t (0,0))
theorem Blk.lt{k:IntKind}{t:Vr}{w:Vz}{g:Nat}{l:Vy}(h:Blk k t w g l):g<w.heap.size:=by
 apply bC;intro a;unfold Blk at h;rw[Array.getElem?_eq_none (by omega)] at h;cases h
theorem Blk.cell{k:IntKind}{t:Vr}{w:Vz}{g:Nat}{l:Vy}(h:Blk k t w g l)(i:Nat)(a:i<l.length):w.cell? ⟨g,i,none⟩=some (.int k ((l.getD i 0:Nat):Int)):=by
 unfold Blk at h;simp[World.cell?,h,wordCells,a]
theorem Blk.free{k:IntKind}{t:Vr}{w:Vz}{g:Nat}{l:Vy}(h:Blk k t w g l)(i:Nat):w.frozen? ⟨g,i,none⟩=false:=by
 unfold Blk at h;simp[World.frozen?,h]
theorem Qqp(k:IntKind)(l:Vy)(i x:Nat):(wordCells k l).setIfInBounds i (.int k (x:Int))=wordCells k (l.set i x):=by
 unfold wordCells;apply Array.ext';simp[List.map_set]
theorem Blk.set{k:IntKind}{t:Vr}{w:Vz}{g:Nat}{l:Vy}(h:Blk k t w g l)(i x:Nat):Blk k t (w.setCell ⟨g,i,none⟩ (.int k (x:Int))) g (l.set i x):=by
 unfold Blk at h ⊢;simp[World.setCell,Array.getElem?_modify,h,<-Qqp]
theorem Blk.other{k:IntKind}{t:Vr}{w:Vz}{g a:Nat}{l:Vy}(h:Blk k t w g l)(b:g≠a)(i:Nat)(v:Value):Blk k t (w.setCell ⟨a,i,none⟩ v) g l:=by
 unfold Blk at h ⊢;rw[Below.heap_setCell _ _ _ _ b];exact h
theorem Blk.drew{k:IntKind}{t:Vr}{w:Vz}{g:Nat}{l:Vy}(h:Blk k t w g l):Blk k t w.drew g l:=h
theorem Blk.alloc{k:IntKind}{t:Vr}{w:Vz}{g:Nat}{l:Vy}(h:Blk k t w g l)(o:Obj):Blk k t (w.alloc o) g l:=by
 have:=h.lt;unfold Blk at h ⊢;rw[Below.heap_alloc _ _ _ this];exact h
theorem Blk.below{k:IntKind}{t:Vr}{w a:Vz}{g B:Nat}{l:Vy}(h:Blk k t w g l)(b:Below B w a)(c:g<B):Blk k t a g l:=by
 unfold Blk at h ⊢;rw[b.block g c];exact h
theorem Blk.new(k:IntKind)(t:Vr)(w:Vz)(l:Vy):Blk k t (w.alloc (.cells (wordCells k l) t)) w.heap.size l:=by
 show (w.heap.push _)[w.heap.size]?=_
 simp
theorem Blk.row{k:IntKind}{t:Vr}{w:Vz}{g:Nat}{l:Vy}(h:Blk k t w g l)(n:Nat)(c:n<=l.length)(a:Nat)(d:n<=a):Row k w (some ⟨g,0,none⟩) a (l.take n):=by
 have hl:=h.lt;refine⟨by rw[List.length_take];omega,.inr ⟨g,0,rfl,hl⟩,fun i b=>⟨g,0,rfl,hl,?_⟩⟩;rw[List.length_take] at b;have:=h.cell i (by omega);rw[Nat.zero_add,this,List.getD_eq_getElem?_getD,List.getD_eq_getElem?_getD,List.getElem?_take_of_lt (by omega)]
theorem Qar(n:Int):IntKind.u64.wrap n=n % 18446744073709551616:=by
 simp[IntKind.wrap,IntKind.signed,IntKind.bits]
def zeros(n:Nat):List Nat:=List.replicate n 0
theorem Qah(n:Nat):(zeros n).length=n:=by unfold zeros;simp
theorem Qaq(B n:Nat)(hB:0<B):Small B (zeros n):=Small.replicate B n hB
theorem Qbx(n j:Nat):(zeros n).getD j 0=0:=by
 unfold zeros;rw[List.getD_eq_getElem?_getD,List.getElem?_replicate]
 split<;>rfl
theorem Qd5(B n:Nat):val B (zeros n)=0:=Qnc B n
theorem Qd6(k:IntKind)(n:Nat):madeCells #[Value.int k 0] n=wordCells k (zeros n):=by
 unfold madeCells wordCells zeros;apply Array.ext
 . simp
 . intro i a b
   simp[Nat.mod_one]
theorem Tryz.info32:(prog.info? 233).map (fun i=>(i.zero,i.size,i.bytes))=some (some (.int .u32 0),1,4):=by kernel_rfl
theorem Tryz.info64:(prog.info? 190).map (fun i=>(i.zero,i.size,i.bytes))=some (some (.int .u64 0),1,8):=by kernel_rfl
theorem Qa8(L:Int)(n:Nat)(a:L=n)(b:n<=2199023255552)(w:Vz):
 (Instr.makeSlice 119 (.int .i64 L) (.int .i64 L)).run prog w=.ok (.slice (some ⟨w.heap.size,0,none⟩) n n) (w.alloc (.cells (wordCells .u32 (zeros n)) 233)):=by
 subst a;rw[<-Qd6];exact Go.run_make_row' 119 233 (.int .u32 0) 4 underlying119 Tryz.info32 rfl .i64 .i64 n (by omega) (by omega) w
structure U32 (w:Vz) (a:Vx) (cap:Nat) (l:Vy) (n:Nat):Prop where
 row:Row .u32 w a cap l
 num:Num 4294967296 l n
 short:l.length<=1099511627776
theorem U32.below{w c:Vz}{a:Vx}{b:Nat}{l:Vy}{n:Nat}(h:U32 w a b l n)(d:Bl w c):U32 c a b l n:=⟨h.row.below d,h.num,h.short⟩
theorem Qbc(H I:Vx)(c1 c2:Nat)(l m:Vy)(x y:Nat)(w:Vz)(a:U32 w H c1 l x)(c:U32 w I c2 m y):
 Calls prog 136 #[.slice H l.length c1,.slice I m.length c2] w fun e N=>e=.returned (.int .i64 (cmp3 x y))/\Below w.heap.size w N:=by
 have T:=a.short;have U:=c.short;by_cases f:l.length<m.length
 .
  have t:((l.length:Int) != (m.length:Int))=true:=by rw[bne_iff_ne];omega
  have u:cmp3 x y= -1:=Qcr (by rw[<-a.num.eq,<-c.num.eq];exact Qau (by omega) a.num.small c.num.trim f);have A:O (cmp3 x y= -1):=u;clear u;go_enter func136,ntmps136;go_wp2;go_ret;exact⟨by rw[A.o];rfl,Below.refl _ _⟩
 by_cases v:m.length<l.length
 .
  have t:((l.length:Int) != (m.length:Int))=true:=by rw[bne_iff_ne];omega
  have u:cmp3 x y=1:=Qdi (by rw[<-a.num.eq,<-c.num.eq];exact Qau (by omega) c.num.small a.num.trim v);have A:O (cmp3 x y=1):=u;clear u;go_enter func136,ntmps136;go_wp2;go_ret;exact⟨by rw[A.o];rfl,Below.refl _ _⟩
 have n:m.length=l.length:=by omega
 have J:O (m.length=l.length):=n;rw[n];have t:((l.length:Int) != (l.length:Int))=false:=by simp
 clear f v n;go_enter func136,ntmps136;go_wp2;go_loopw [5] (fun i wr=>∃k:Nat,k<=l.length/\i=.int .i64 ((k:Int) - 1)/\l.drop k=m.drop k/\Below w.heap.size w wr) (fun i _=>(intOf i+1).toNat)
 case atStart=>exact⟨l.length,Nat.le_refl _,rfl,by rw[List.drop_of_length_le lZ,List.drop_of_length_le (by rw[J.o];exact Nat.le_refl _)],Below.refl _ _⟩
 case round=>
  obtain⟨k,hk,rfl,r,s⟩:=hrel;have z:O (l.drop k=m.drop k):=r;clear r;by_cases P:k=0
  .
   subst P;go_wp2;go_ret;exact⟨by rw[Qhs (by rw[<-a.num.eq,<-c.num.eq];have:=z.o;simp at this;rw[this])];rfl,s⟩
  .
   obtain⟨j,rfl⟩:∃j,k=j+1:=⟨k - 1,by omega⟩;have g:j<l.length:=by omega
   have h:j<m.length:=by have:=J.o;omega
   obtain⟨b,Q,rfl,B,p⟩:=a.row.cell j g;obtain⟨V,K,rfl,C,q⟩:=c.row.cell j h;obtain⟨d,r⟩:=nm (l.getD j 0);obtain⟨e,D⟩:=nm (m.getD j 0);rw[r] at p;rw[D] at q;have L:=ce s B p;have M:=ce s C q;have E:O (l.getD j 0=d):=r;have F:O (m.getD j 0=e):=D;clear r D p q;have R:((j+1:Nat):Int) - 1=(j:Int):=by omega
   rw[R];by_cases G:d=e
   .
    subst G;have S:((d:Int) != (d:Int))=false:=by simp
    go_wp2;go_region
    all_goals
     go_wp2;go_roundw
     case rel=>exact⟨j,by omega,by go_num,Qht g h z.o (E.o.trans F.o.symm),s.drew⟩
     case measure=>simp[intOf]
   .
    have S:((d:Int) != (e:Int))=true:=by rw[bne_iff_ne];omega
    by_cases f:d<e
    .
     go_wp2;go_region
     all_goals
      go_wp2;go_region
     all_goals
      go_wp2;go_ret;exact⟨by rw[Qcr (by rw[<-a.num.eq,<-c.num.eq];exact Qdj (by omega) a.num.small j g h z.o (by rw[E.o,F.o];exact f))];rfl,s.drew.drew⟩
    .
     go_wp2;go_region
     all_goals
      go_wp2;go_region
     all_goals
      go_wp2;go_ret;exact⟨by rw[Qdi (by rw[<-a.num.eq,<-c.num.eq];exact Qdj (by omega) c.num.small j h g z.o.symm (by rw[E.o,F.o];omega))];rfl,s.drew.drew⟩
theorem Qmx(l:Vy)(k:Nat)(hk:k<=l.length)(h:k=0∨l.getD (k - 1) 0≠0):Trim (l.take k):=by
 rcases h with rfl|h
 . left;simp
 .
  by_cases a:k=0
  . left;subst a;simp
  .
   right;rw[List.length_take,Nat.min_eq_left hk,List.getD_eq_getElem?_getD,List.getElem?_take_of_lt (by omega),<-List.getD_eq_getElem?_getD];exact h
theorem Qmy(B:Nat)(l:Vy)(k:Nat)(hk:k<l.length)(h:l.getD k 0=0):val B (l.take (k+1))=val B (l.take k):=by
 rw[Qb5 B l k hk,h];simp
theorem Qmz(a:Vx)(c:Nat)(l:Vy)(w:Vz)(h:Row .u32 w a c l)(hl:l.length<=1099511627776):
 Calls prog 194 #[.slice a l.length c] w fun e t=>(∃k,k<=l.length/\e=.returned (.slice a k c)/\val 4294967296 (l.take k)=val 4294967296 l/\Trim (l.take k))/\t=w:=by
 have m:=h.fit;go_enter func194,ntmps194;go_wp2;go_loop [3] (fun n=>∃k:Nat,k<=l.length/\n=.int .i64 k/\val 4294967296 (l.take k)=val 4294967296 l) (fun n=>(intOf n).toNat)
 case atStart=>exact⟨l.length,Nat.le_refl _,rfl,by rw[List.take_length]⟩
 case round=>
  obtain⟨k,hk,rfl,p⟩:=hrel;have f:O (val 4294967296 (l.take k)=val 4294967296 l):=p;clear p;by_cases u:k=0
  .
   subst u;rcases h.shape with ⟨rfl,rfl⟩|⟨b,g,rfl,v⟩
   all_goals
    go_wp2;go_ret;exact⟨⟨0,by omega,by simp,f.o,.inl (by simp)⟩,rfl⟩
  .
   obtain⟨b,g,rfl,v,q⟩:=h.cell (k - 1) (by omega);obtain⟨j,rfl⟩:∃j,k=j+1:=⟨k - 1,by omega⟩;simp only[Nat.add_sub_cancel] at q;obtain⟨d,i⟩:=nm (l.getD j 0);rw[i] at q;have r:O (l.getD j 0=d):=i;clear i;by_cases s:d=0
   .
    subst s;go_wp2;go_round
    case rel=>exact⟨j,by omega,by go_num,(Qmy _ l j (by omega) r.o).symm.trans f.o⟩
    case measure=>simp[intOf]
   .
    have x:((d:Int) == 0)=false:=by simp;omega
    go_wp2;go_ret;exact⟨⟨j+1,hk,by simp,f.o,Qmx l (j+1) hk (.inr (by rw[Nat.add_sub_cancel,r.o];exact s))⟩,rfl⟩
theorem Qaz(g n b x:Nat)(rs:Vy)(w:Vz)(h:Blk .u32 233 w g rs)(hl:rs.length=n)(k:Small 4294967296 rs)(l:n<=b)(p:n<=1099511627776)(m:val 4294967296 rs=x):
 Calls prog 194 #[.slice (some ⟨g,0,none⟩) n b] w fun e o=>(∃a b r,e=.returned (.slice a r.length b)/\U32 w a b r x)/\o=w:=by
 have d:=h.row n (by omega) b l;rw[List.take_of_length_le (by omega)] at d;have j:=Qmz (some ⟨g,0,none⟩) b rs w d (by omega);rw[hl] at j;refine j.mono ?_;rintro e w1 ⟨⟨q,s,rfl,f,i⟩,rfl⟩;have c:(rs.take q).length=q:=by rw[List.length_take];omega
 exact⟨⟨_,b,rs.take q,by rw[c],d.take q (by omega),⟨k.take q,i,f.trans m⟩,by rw[c];omega⟩,rfl⟩
theorem Qhe(a1 a2:Vx)(c1 c2:Nat)(l m:Vy)(x y:Nat)(w:Vz)(N:U32 w a1 c1 l x)(P:U32 w a2 c2 m y)(hl:l.length<1099511627776)(hm:m.length<1099511627776):
 Calls prog 148 #[.slice a1 l.length c1,.slice a2 m.length c2] w fun e w'=>(∃a p r,e=.returned (.slice a r.length p)/\U32 w' a p r (x+y))/\Below w.heap.size w w':=by
 by_cases aa:l.length<m.length
 .
  have v:∀w,(Instr.makeSlice 119 (.int .i64 ((m.length:Int)+1)) (.int .i64 ((m.length:Int)+1))).run prog w=.ok (.slice (some ⟨w.heap.size,0,none⟩) (m.length+1) (m.length+1)) (w.alloc (.cells (wordCells .u32 (zeros (m.length+1))) 233)):=
   fun w=>Qa8 _ (m.length+1) (by omega) (by omega) w
  go_enter func148,ntmps148;go_wp2;clear v;go_loopw [6,7] (fun c i wr=>∃(k A:Nat) (rs:Vy),k<=m.length/\A<=1/\c=.int .u64 A/\i=.int .i64 k/\Blk .u32 233 wr w.heap.size rs/\rs.length=m.length+1/\Small 4294967296 rs/\
   val 4294967296 (rs.take k)+4294967296 ^ k*A=val 4294967296 (m.take k)+val 4294967296 (l.take k)/\Below w.heap.size w wr) (fun _ i _=>m.length - (intOf i).toNat)
  case atStart=>exact⟨0,0,zeros (m.length+1),by omega,by omega,rfl,rfl,Blk.new _ _ _ _,Qah _,Qaq _ _ (by omega),by simp[val],bR.alloc lZ _⟩
  case round=>
   obtain⟨k,c,rs,hk,hc,rfl,rfl,hB,g,h,Q,q⟩:=hrel;have B:O (val 4294967296 (rs.take k)+4294967296 ^ k*c=val 4294967296 (m.take k)+val 4294967296 (l.take k)):=Q;have f:O (rs.length=m.length+1):=g;have C:O (Blk .u32 233 wr w.heap.size rs):=hB;clear Q;by_cases D:k<m.length
   .
    obtain⟨b,V,rfl,E,j⟩:=P.row.cell k D;obtain⟨d,t⟩:=nm (m.getD k 0);have W:d<4294967296:=by rw[<-t];exact P.num.small.getD (by omega) k
    rw[t] at j;have R:=ce q E j;have S:O (m.getD k 0=d):=t;obtain⟨z,s⟩:=nm (rs.getD k 0);have X:=hB.free k;have F:=hB.cell k (by omega);rw[s] at F;clear t j s hB g;by_cases G:k<l.length
    .
     obtain⟨b',T,rfl,H,n⟩:=N.row.cell k G;obtain⟨e,u⟩:=nm (l.getD k 0);have Y:e<4294967296:=by rw[<-u];exact N.num.small.getD (by omega) k
     rw[u] at n;have U:=ce q H n;have Z:O (l.getD k 0=e):=u;clear u n;have I:O (((c:Int)+d+e) % 4294967296=(((c+(d+e)) % 4294967296:Nat):Int)):=by unfold O;omega
     have J:O (((c:Int)+d+e) / 4294967296=(((c+(d+e)) / 4294967296:Nat):Int)):=by unfold O;omega
     go_wp2;go_roundw
     case rel=>
      rw[I.o,J.o];exact⟨k+1,(c+(d+e)) / 4294967296,rs.set k ((c+(d+e)) % 4294967296),by omega,by omega,rfl,by go_num,C.o.set k _,by rw[List.length_set];exact f.o,h.set k (by omega),Qdk k c d e rs m l (by have:=f.o;omega) S.o Z.o B.o,q.setCell lZ _⟩
     case measure=>simp[intOf];omega
    .
     have I:O (((c:Int)+d) % 4294967296=(((c+(d+0)) % 4294967296:Nat):Int)):=by unfold O;omega
     have J:O (((c:Int)+d) / 4294967296=(((c+(d+0)) / 4294967296:Nat):Int)):=by unfold O;omega
     go_wp2;go_roundw
     case rel=>
      rw[I.o,J.o];exact⟨k+1,(c+(d+0)) / 4294967296,rs.set k ((c+(d+0)) % 4294967296),by omega,by omega,rfl,by go_num,C.o.set k _,by rw[List.length_set];exact f.o,h.set k (by omega),Qdk k c d 0 rs m l (by have:=f.o;omega) S.o (Qbp l k (by omega)) B.o,q.setCell lZ _⟩
     case measure=>simp[intOf];omega
   .
    obtain⟨z,s⟩:=nm (rs.getD m.length 0);have X:=hB.free m.length;have F:=hB.cell m.length (by omega);rw[s] at F;clear s hB g;go_wp2_with fail;have K:(rs.set m.length c).length=m.length+1:=by rw[List.length_set];exact f.o
    have L:Blk .u32 233 (wr.setCell ⟨w.heap.size,m.length,none⟩ (.int .u32 (c:Int))) w.heap.size (rs.set m.length c):=C.o.set m.length c;have M:val 4294967296 (rs.set m.length c)=x+y:=by
     rw[Qe9 _ _ _ _ f.o];have e1:k=m.length:=by omega
     have e2:=B.o;rw[e1,List.take_length,Qa5 _ l _ (by omega),P.num.eq,N.num.eq] at e2;omega
    refine(Qaz w.heap.size (m.length+1) (m.length+1) (x+y) (rs.set m.length c) _ L K (h.set _ (by omega)) lZ (by omega) M).mono ?_;rintro e w1 ⟨⟨a,p,r,rfl,hu⟩,rfl⟩;go_wp2;go_ret;exact⟨⟨a,p,r,rfl,hu⟩,q.setCell lZ _⟩
 .
  have v:∀w,(Instr.makeSlice 119 (.int .i64 ((l.length:Int)+1)) (.int .i64 ((l.length:Int)+1))).run prog w=.ok (.slice (some ⟨w.heap.size,0,none⟩) (l.length+1) (l.length+1)) (w.alloc (.cells (wordCells .u32 (zeros (l.length+1))) 233)):=
   fun w=>Qa8 _ (l.length+1) (by omega) (by omega) w
  go_enter func148,ntmps148;go_wp2;clear v;go_loopw [6,7] (fun c i wr=>∃(k A:Nat) (rs:Vy),k<=l.length/\A<=1/\c=.int .u64 A/\i=.int .i64 k/\Blk .u32 233 wr w.heap.size rs/\rs.length=l.length+1/\Small 4294967296 rs/\
   val 4294967296 (rs.take k)+4294967296 ^ k*A=val 4294967296 (l.take k)+val 4294967296 (m.take k)/\Below w.heap.size w wr) (fun _ i _=>l.length - (intOf i).toNat)
  case atStart=>exact⟨0,0,zeros (l.length+1),by omega,by omega,rfl,rfl,Blk.new _ _ _ _,Qah _,Qaq _ _ (by omega),by simp[val],bR.alloc lZ _⟩
  case round=>
   obtain⟨k,c,rs,hk,hc,rfl,rfl,hB,g,h,Q,q⟩:=hrel;have B:O (val 4294967296 (rs.take k)+4294967296 ^ k*c=val 4294967296 (l.take k)+val 4294967296 (m.take k)):=Q;have f:O (rs.length=l.length+1):=g;have C:O (Blk .u32 233 wr w.heap.size rs):=hB;clear Q;by_cases D:k<l.length
   .
    obtain⟨b,V,rfl,E,j⟩:=N.row.cell k D;obtain⟨d,t⟩:=nm (l.getD k 0);have W:d<4294967296:=by rw[<-t];exact N.num.small.getD (by omega) k
    rw[t] at j;have R:=ce q E j;have S:O (l.getD k 0=d):=t;obtain⟨z,s⟩:=nm (rs.getD k 0);have X:=hB.free k;have F:=hB.cell k (by omega);rw[s] at F;clear t j s hB g;by_cases G:k<m.length
    .
     obtain⟨b',T,rfl,H,n⟩:=P.row.cell k G;obtain⟨e,u⟩:=nm (m.getD k 0);have Y:e<4294967296:=by rw[<-u];exact P.num.small.getD (by omega) k
     rw[u] at n;have U:=ce q H n;have Z:O (m.getD k 0=e):=u;clear u n;have I:O (((c:Int)+d+e) % 4294967296=(((c+(d+e)) % 4294967296:Nat):Int)):=by unfold O;omega
     have J:O (((c:Int)+d+e) / 4294967296=(((c+(d+e)) / 4294967296:Nat):Int)):=by unfold O;omega
     go_wp2;go_roundw
     case rel=>
      rw[I.o,J.o];exact⟨k+1,(c+(d+e)) / 4294967296,rs.set k ((c+(d+e)) % 4294967296),by omega,by omega,rfl,by go_num,C.o.set k _,by rw[List.length_set];exact f.o,h.set k (by omega),Qdk k c d e rs l m (by have:=f.o;omega) S.o Z.o B.o,q.setCell lZ _⟩
     case measure=>simp[intOf];omega
    .
     have I:O (((c:Int)+d) % 4294967296=(((c+(d+0)) % 4294967296:Nat):Int)):=by unfold O;omega
     have J:O (((c:Int)+d) / 4294967296=(((c+(d+0)) / 4294967296:Nat):Int)):=by unfold O;omega
     go_wp2;go_roundw
     case rel=>
      rw[I.o,J.o];exact⟨k+1,(c+(d+0)) / 4294967296,rs.set k ((c+(d+0)) % 4294967296),by omega,by omega,rfl,by go_num,C.o.set k _,by rw[List.length_set];exact f.o,h.set k (by omega),Qdk k c d 0 rs l m (by have:=f.o;omega) S.o (Qbp m k (by omega)) B.o,q.setCell lZ _⟩
     case measure=>simp[intOf];omega
   .
    obtain⟨z,s⟩:=nm (rs.getD l.length 0);have X:=hB.free l.length;have F:=hB.cell l.length (by omega);rw[s] at F;clear s hB g;go_wp2_with fail;have K:(rs.set l.length c).length=l.length+1:=by rw[List.length_set];exact f.o
    have L:Blk .u32 233 (wr.setCell ⟨w.heap.size,l.length,none⟩ (.int .u32 (c:Int))) w.heap.size (rs.set l.length c):=C.o.set l.length c;have M:val 4294967296 (rs.set l.length c)=x+y:=by
     rw[Qe9 _ _ _ _ f.o];have e1:k=l.length:=by omega
     have e2:=B.o;rw[e1,List.take_length,Qa5 _ m _ (by omega),N.num.eq,P.num.eq] at e2;omega
    refine(Qaz w.heap.size (l.length+1) (l.length+1) (x+y) (rs.set l.length c) _ L K (h.set _ (by omega)) lZ (by omega) M).mono ?_;rintro e w1 ⟨⟨a,p,r,rfl,hu⟩,rfl⟩;go_wp2;go_ret;exact⟨⟨a,p,r,rfl,hu⟩,q.setCell lZ _⟩
theorem Qhj(W X:Vx)(c1 c2:Nat)(l m:Vy)(x y:Nat)(w:Vz)(C:U32 w W c1 l x)(D:U32 w X c2 m y)(ae:y<=x):
 Calls prog 228 #[.slice W l.length c1,.slice X m.length c2] w fun e Y=>(∃a j r,e=.returned (.slice a r.length j)/\U32 Y a j r (x - y))/\Below w.heap.size w Y:=by
 have af:m.length<=l.length:=by
  apply bC;intro I;have:=Qau (B:=4294967296) (by omega) C.num.small D.num.trim (by omega);rw[C.num.eq,D.num.eq] at this;omega
 have s1:=C.short;have J:∀w,(Instr.makeSlice 119 (.int .i64 (l.length:Int)) (.int .i64 (l.length:Int))).run prog w=.ok (.slice (some ⟨w.heap.size,0,none⟩) l.length l.length) (w.alloc (.cells (wordCells .u32 (zeros l.length)) 233)):=
  fun w=>Qa8 _ l.length rfl (by omega) w
 go_enter func228,ntmps228;go_wp2;clear J;go_loopw [6,7] (fun c i wr=>∃(k f:Nat) (rs:Vy),k<=l.length/\f<=1/\c=.int .u64 f/\i=.int .i64 k/\Blk .u32 233 wr w.heap.size rs/\rs.length=l.length/\Small 4294967296 rs/\
  val 4294967296 (rs.take k)+val 4294967296 (m.take k)=val 4294967296 (l.take k)+4294967296 ^ k*f/\Below w.heap.size w wr) (fun _ i _=>l.length - (intOf i).toNat)
 case atStart=>exact⟨0,0,zeros l.length,by omega,by omega,rfl,rfl,Blk.new _ _ _ _,Qah _,Qaq _ _ (by omega),by simp[val],bR.alloc lZ _⟩
 case round=>
  obtain⟨k,c,rs,hk,I,rfl,rfl,hB,n,p,Z,E⟩:=hrel;have K:O (val 4294967296 (rs.take k)+val 4294967296 (m.take k)=val 4294967296 (l.take k)+4294967296 ^ k*c):=Z;have g:O (rs.length=l.length):=n;have L:O (Blk .u32 233 wr w.heap.size rs):=hB;clear Z;by_cases M:k<l.length
  .
   obtain⟨b,ag,rfl,N,t⟩:=C.row.cell k M;obtain⟨d,G⟩:=nm (l.getD k 0);have F:d<4294967296:=by rw[<-G];exact C.num.small.getD (by omega) k
   rw[G] at t;have aa:=ce E N t;have H1:O (l.getD k 0=d):=G;obtain⟨z,hz⟩:=nm (rs.getD k 0);have g1:=hB.free k;have g2:=hB.cell k (by omega);rw[hz] at g2;clear G t hz hB n;by_cases P:k<m.length
   .
    obtain⟨b',ab,rfl,Q,u⟩:=D.row.cell k P;obtain⟨e,H⟩:=nm (m.getD k 0);have R:e<4294967296:=by rw[<-H];exact D.num.small.getD (by omega) k
    rw[H] at u;have ad:=ce E Q u;have H2:O (m.getD k 0=e):=H;clear H u;obtain⟨r,f,v,A,h,q,s⟩:=Qhu d c e F R I;have S:O (r+c+e=d+4294967296*f):=h;have T:O (((((d:Int) - c) % 18446744073709551616 - e) % 18446744073709551616) % 4294967296=(r:Int)):=q;have U:O (((((d:Int) - c) % 18446744073709551616 - e) % 18446744073709551616) / 9223372036854775808=(f:Int)):=s;clear h q s;go_wp2;go_roundw
    case rel=>
     simp only[Qar,T.o,U.o];exact⟨k+1,f,rs.set k r,by omega,A,rfl,by go_num,L.o.set k _,by rw[List.length_set];exact g.o,p.set k v,Qfa _ k c d e r f rs l m (by have:=g.o;omega) H1.o H2.o S.o K.o,E.setCell lZ _⟩
    case measure=>simp[intOf];omega
   .
    obtain⟨r,f,v,A,h,q,s⟩:=Qhu d c 0 F (by omega) I;have S:O (r+c+0=d+4294967296*f):=h;have T:O ((((d:Int) - c) % 18446744073709551616) % 4294967296=(r:Int)):=by unfold O;omega
    have U:O ((((d:Int) - c) % 18446744073709551616) / 9223372036854775808=(f:Int)):=by unfold O;omega
    clear h q s;go_wp2;go_roundw
    case rel=>
     simp only[Qar,T.o,U.o];exact⟨k+1,f,rs.set k r,by omega,A,rfl,by go_num,L.o.set k _,by rw[List.length_set];exact g.o,p.set k v,Qfa _ k c d 0 r f rs l m (by have:=g.o;omega) H1.o (Qbp m k (by omega)) S.o K.o,E.setCell lZ _⟩
    case measure=>simp[intOf];omega
  .
   have V:val 4294967296 rs=x - y:=by
    have e1:k=l.length:=by omega
    have e2:=K.o;rw[e1,List.take_length,Qa5 _ m _ (by omega),List.take_of_length_le (by omega),C.num.eq,D.num.eq] at e2;have e3:=Qab (B:=4294967296) (by omega) p;rw[n] at e3;have e4:c=0:=by
     apply bC;intro ah;have:c=1:=by omega
     subst this;omega
    subst e4;omega
   clear n hB;go_wp2_with fail;refine(Qaz w.heap.size l.length l.length (x - y) rs _ L.o g.o p lZ (by omega) V).mono ?_;rintro e w1 ⟨⟨a,j,r,rfl,hu⟩,rfl⟩;go_wp2;go_ret;exact⟨⟨a,j,r,rfl,hu⟩,E⟩
theorem Qhh(a1 a2:Vx)(c1 c2:Nat)(l m:Vy)(x y:Nat)(w:Vz)(I:U32 w a1 c1 l x)(J:U32 w a2 c2 m y)(N:l.length+m.length<=1099511627776):
 Calls prog 138 #[.slice a1 l.length c1,.slice a2 m.length c2] w fun e w'=>(∃a p r,e=.returned (.slice a r.length p)/\U32 w' a p r (x*y))/\Below w.heap.size w w':=by
 by_cases s:l.length=0
 .
  have hx:x=0:=(I.num.len_zero (by omega)).2 s;have q1:((l.length:Int) == 0)=true:=by simp[s]
  have P:O (x=0):=hx;clear s hx;go_enter func138,ntmps138;go_wp2;go_ret;exact⟨⟨none,0,[],rfl,by rw[P.o,Nat.zero_mul];exact⟨Row.nil _ _,Num.zero _,by simp⟩⟩,Below.refl _ _⟩
 by_cases u:m.length=0
 .
  have hy:y=0:=(J.num.len_zero (by omega)).2 u;have q1:((l.length:Int) == 0)=false:=by rw[beq_eq_false_iff_ne];omega
  have q2:((m.length:Int) == 0)=true:=by simp[u]
  have P:O (y=0):=hy;clear u hy;go_enter func138,ntmps138;go_wp2;go_ret;exact⟨⟨none,0,[],rfl,by rw[P.o,Nat.mul_zero];exact⟨Row.nil _ _,Num.zero _,by simp⟩⟩,Below.refl _ _⟩
 have q1:((l.length:Int) == 0)=false:=by rw[beq_eq_false_iff_ne];omega
 have q2:((m.length:Int) == 0)=false:=by rw[beq_eq_false_iff_ne];omega
 have Q:∀w,(Instr.makeSlice 119 (.int .i64 ((l.length:Int)+(m.length:Int))) (.int .i64 ((l.length:Int)+(m.length:Int)))).run prog w=.ok (.slice (some ⟨w.heap.size,0,none⟩) (l.length+m.length) (l.length+m.length)) (w.alloc (.cells (wordCells .u32 (zeros (l.length+m.length))) 233)):=
  fun w=>Qa8 _ (l.length+m.length) (by omega) (by omega) w
 go_enter func138,ntmps138;go_wp2;clear Q;go_loopw [6] (fun i wr=>∃(k:Nat) (rs:Vy),k<=l.length/\i=.int .i64 k/\Blk .u32 233 wr w.heap.size rs/\rs.length=l.length+m.length/\Small 4294967296 rs/\
  val 4294967296 (rs.take (k+m.length))=val 4294967296 (l.take k)*y/\Below w.heap.size w wr) (fun i _=>l.length - (intOf i).toNat)
 case atStart=>exact⟨0,zeros (l.length+m.length),by omega,rfl,Blk.new _ _ _ _,Qah _,Qaq _ _ (by omega),by rw[show (zeros (l.length+m.length)).take (0+m.length)=zeros m.length from by unfold zeros;simp,Qd5];simp[val],bR.alloc lZ _⟩
 case round=>
  obtain⟨k,rs,hk,rfl,hB,g,h,D,q⟩:=hrel;have B:O (val 4294967296 (rs.take (k+m.length))=val 4294967296 (l.take k)*y):=D;have f:O (rs.length=l.length+m.length):=g;have C:O (Blk .u32 233 wr w.heap.size rs):=hB;have n:O (Small 4294967296 rs):=h;clear D h;by_cases R:k<l.length
  .
   obtain⟨b,af,rfl,S,E⟩:=I.row.cell k R;obtain⟨d,K⟩:=nm (l.getD k 0);have T:d<4294967296:=by rw[<-K];exact I.num.small.getD (by omega) k
   rw[K] at E;have H1:O (l.getD k 0=d):=K;clear K g hB;go_wp2;have F:O (Bl w wr):=q;clear q;go_loopw [7,8] (fun c j wr=>∃(i U:Nat) (rs:Vy),i<=m.length/\U<4294967296/\c=.int .u64 U/\j=.int .i64 i/\Blk .u32 233 wr w.heap.size rs/\rs.length=l.length+m.length/\Small 4294967296 rs/\
    val 4294967296 (rs.take (k+m.length))+4294967296 ^ (k+i)*U=val 4294967296 (l.take k)*y+4294967296 ^ k*(d*val 4294967296 (m.take i))/\Below w.heap.size w wr) (fun _ j _=>m.length - (intOf j).toNat)
   case atStart=>exact⟨0,0,rs,by omega,by omega,rfl,rfl,C.o,f.o,n.o,by rw[B.o];simp[val],F.o⟩
   case round=>
    clear C f n B F;obtain⟨i,c,rs,hi,hc,rfl,rfl,hB,g,h,D,q⟩:=hrel;have B:O (val 4294967296 (rs.take (k+m.length))+4294967296 ^ (k+i)*c=val 4294967296 (l.take k)*y+4294967296 ^ k*(d*val 4294967296 (m.take i))):=D;have f:O (rs.length=l.length+m.length):=g;have C:O (Blk .u32 233 wr w.heap.size rs):=hB;have n:O (Small 4294967296 rs):=h;clear D;by_cases G:i<m.length
    .
     obtain⟨b',ab,rfl,V,v⟩:=J.row.cell i G;obtain⟨e,L⟩:=nm (m.getD i 0);have W:e<4294967296:=by rw[<-L];exact J.num.small.getD (by omega) i
     rw[L] at v;have ad:=ce q S E;have ae:=ce q V v;have H2:O (m.getD i 0=e):=L;obtain⟨z,A⟩:=nm (rs.getD (k+i) 0);have ag:z<4294967296:=by rw[<-A];exact h.getD (by omega) _
     have g1:=hB.free (k+i);have X:=hB.cell (k+i) (by omega);rw[A] at X;have HZ:O (rs.getD (k+i) 0=z):=A;clear L v A hB g h;have hp:=Qdl T W;obtain⟨t,M⟩:∃t:Nat,t=d*e:=⟨_,rfl⟩;have ah:(d:Int)*(e:Int)=(t:Int):=by rw[M];simp
     have ai:t<=18446744065119617025:=by rw[M];exact hp
     have HT:O (t=d*e):=M;clear M hp;have ev:O (((c:Int)+(t+z)) % 4294967296=(((c+(t+z)) % 4294967296:Nat):Int)):=by unfold O;omega
     have ec:O (((c:Int)+(t+z)) / 4294967296=(((c+(t+z)) / 4294967296:Nat):Int)):=by unfold O;omega
     go_wp2;go_region
     all_goals
      go_wp2;go_roundw
      case rel=>
       rw[ev.o,ec.o];exact⟨i+1,(c+(t+z)) / 4294967296,rs.set (k+i) ((c+(t+z)) % 4294967296),by omega,by omega,rfl,by go_num,(C.o.set (k+i) _).drew,by rw[List.length_set];exact f.o,n.o.set _ (by omega),Qnh _ k i d e t _ c z _ rs m HT.o H2.o (by have:=f.o;omega) (by omega) HZ.o B.o,(q.setCell lZ _).drew⟩
      case measure=>simp[intOf];omega
    .
     obtain⟨z,A⟩:=nm (rs.getD (k+m.length) 0);have g1:=hB.free (k+m.length);have X:=hB.cell (k+m.length) (by omega);rw[A] at X;clear A hB g h;have hv2:val 4294967296 ((rs.set (k+m.length) c).take (k+1+m.length))=val 4294967296 (l.take (k+1))*y:=by
      have Y:i=m.length:=by omega
      have H:=B.o;rw[Y,List.take_length,J.num.eq] at H;exact Qni _ k d c y m.length rs l H1.o (by have:=f.o;omega) H
     have Z:O (val 4294967296 ((rs.set (k+m.length) c).take (k+1+m.length))=val 4294967296 (l.take (k+1))*y):=hv2;clear hv2;go_wp2;go_roundw
     case rel=>exact⟨k+1,rs.set (k+m.length) c,by omega,by go_num,C.o.set (k+m.length) c,by rw[List.length_set];exact f.o,n.o.set _ hc,Z.o,q.setCell lZ _⟩
     case measure=>simp[intOf];omega
  .
   have aa:val 4294967296 rs=x*y:=by
    have Y:k=l.length:=by omega
    have H:=B.o;rw[Y,List.take_length,List.take_of_length_le (by omega),I.num.eq] at H;exact H
   clear g hB;go_wp2_with fail;refine(Qaz w.heap.size (l.length+m.length) (l.length+m.length) (x*y) rs _ C.o f.o n.o lZ N aa).mono ?_;rintro e w1 ⟨⟨a,p,r,rfl,hu⟩,rfl⟩;go_wp2;go_ret;exact⟨⟨a,p,r,rfl,hu⟩,q⟩
theorem Qm0{k:IntKind}{w:Vz}{c:Nat}{e:Vr}{v:Value}{l:Vy}(h:w.ownsRow c e 1 v l.length (l.map (fun n:Nat=>Value.int k n))):
 ∃a b,v=.slice a l.length b/\Row k w a b l:=by
 obtain⟨y,q⟩:=h;rcases q with ⟨rfl,r⟩|⟨g,b,d,rfl,z,j,m,s,t,o⟩
 .
  have:l= []:=List.length_eq_zero_iff.1 r;subst this;exact⟨none,0,rfl,Row.nil k w⟩
 .
  have f:g<w.heap.size:=by
   apply bC;intro A;rw[Array.getElem?_eq_none (by omega)] at j;cases j
  refine⟨_,b,rfl,m,.inr ⟨g,0,rfl,f⟩,fun i u=>⟨g,0,rfl,f,?_⟩⟩;have x:d[i]?=some (.int k ((l.getD i 0:Nat):Int)):=by
   have p:(d.toList.take (l.length*1))[i]?=(l.map (fun n:Nat=>Value.int k n))[i]?:=by rw[o]
   rw[List.getElem?_take_of_lt (by omega),Array.getElem?_toList] at p;rw[p];simp[u]
  simp[World.cell?,j,x]
theorem Qao(b a j:Nat):(⟨b,a,none⟩:Addr).add j=⟨b,a+j,none⟩:=by
 unfold Addr.add
 split
 . rename_i h;subst h;rfl
 . rfl
theorem Qm1(x:Nat):val 4294967296 [x % 4294967296,x / 4294967296]=x:=by
 simp only[val];omega
theorem Qbn(X:Int)(w:Vz)(i:0<=X)(k:X<18446744073709551616):
 Calls prog 149 #[.int .u64 X] w fun e c=>(∃a b r,e=.returned (.slice a r.length b)/\U32 c a b r X.toNat/\r.length<=2)/\Below w.heap.size w c:=by
 obtain⟨x,rfl⟩:=Int.eq_ofNat_of_zero_le i;rw[Int.toNat_natCast];go_enter func149,ntmps149;go_wp2_with fail;have f:(x:Int) % 4294967296=((x % 4294967296:Nat):Int):=by omega
 have g:(x:Int) / 4294967296=((x / 4294967296:Nat):Int):=by omega
 have hB:Blk .u32 233 (w.alloc (Obj.cells #[Value.int IntKind.u32 ((x:Int) % 4294967296),Value.int IntKind.u32 ((x:Int) / 4294967296)] 233)) w.heap.size [x % 4294967296,x / 4294967296]:=by
  rw[f,g];exact Blk.new .u32 233 w [x % 4294967296,x / 4294967296]
 clear f g;refine(Qaz w.heap.size 2 2 x [x % 4294967296,x / 4294967296] _ hB rfl ?_ lZ (by omega) (Qm1 x)).mono ?_
 .
  intro d j;simp at j;omega
 rintro e w1 ⟨⟨a,b,r,rfl,h⟩,rfl⟩;go_wp2;go_ret;exact⟨⟨a,b,r,rfl,h,h.num.length_le_of_lt (by omega) (by omega)⟩,bR.alloc lZ _⟩
theorem Qe2(a:Vx)(c:Nat)(l:Vy)(x:Nat)(w:Vz)(h:U32 w a c l x):
 Calls prog 191 #[.slice a l.length c] w fun e t=>(∃a c,e=.returned (.slice a l.length c)/\U32 t a c l x)/\Below w.heap.size w t:=by
 obtain⟨v,y,p,q,hz2⟩:=info_parts Tryz.info32;have z:=h.short;rcases h.row.shape with ⟨rfl,rfl⟩|⟨b,i,rfl,F⟩
 .
  have hl:=h.row.fit;have:l= []:=List.length_eq_zero_iff.1 (by omega);subst this;go_enter func191,ntmps191;go_wp2_with (at_builtin;refine wpList_append_own_none rfl _ _ 119 rfl w.heap.size 233 v 1 underlying119 y _ 0 [] rfl (World.ownsRow_nil _ _ _ _) rfl ?_);go_ret;exact⟨⟨none,0,rfl,h⟩,Below.refl _ _⟩
 .
  go_enter func191,ntmps191;go_wp2_with (at_builtin;refine wpList_append_own _ rfl _ _ 119 rfl w.heap.size 233 v (.int .u32 0) 1 4 underlying119 y p q hz2 rfl (by decide) _ 0 [] rfl (World.ownsRow_nil _ _ _ _) ⟨b,i,none⟩ l.length c (l.map (fun n:Nat=>Value.int .u32 n)) rfl (by simp) ?c1 ?c2 ?c3 ?c4 lZ ?_)
  case c1=>
   intro j u A;obtain⟨r,s⟩:=gZ A;have d:j<l.length:=by simpa using r
   obtain⟨B,m,C,_,D⟩:=h.row.cell j d;obtain⟨rfl,rfl⟩:b=B/\i=m:=by simpa using C
   rw[Qao,D,<-s];simp[d]
  case c2=>intro u s;obtain⟨n,_,rfl⟩:=List.mem_map.1 s;rfl
  case c3=>unfold maxLen;omega
  case c4=>omega
  .
   intro G w1 f g _;obtain⟨E,cap',rfl,o⟩:=Qm0 f;clear f;go_wp2;go_ret;exact⟨⟨E,cap',rfl,o,h.num,z⟩,bR.grown g lZ (fun k hk=>by simp[Value.ownBlock] at hk)⟩
theorem or64(x y:Int)(a b i:Nat)(c:x=((2 ^ i*a:Nat):Int))(d:y=(b:Int))(e:b<2 ^ i)(f:2 ^ i*a+b<18446744073709551616):bits .or .u64 x y=((2 ^ i*a+b:Nat):Int):=by
 subst c;subst d;rw[u64_or_nat _ _ (by omega) (by omega),Nat.two_pow_add_eq_or_of_lt e]
theorem or64'(x y:Int)(a b i:Nat)(c:x=((2 ^ i*a:Nat):Int))(d:y=(b:Int))(e:b<2 ^ i)(f:2 ^ i*a+b<18446744073709551616):bits .or .u64 y x=((2 ^ i*a+b:Nat):Int):=by
 subst c;subst d;rw[u64_or_nat _ _ (by omega) (by omega),Nat.or_comm,Nat.two_pow_add_eq_or_of_lt e]
theorem or32'(x y:Int)(a b i:Nat)(c:x=((2 ^ i*a:Nat):Int))(d:y=(b:Int))(e:b<2 ^ i)(f:2 ^ i*a+b<4294967296):bits .or .u32 y x=((2 ^ i*a+b:Nat):Int):=by
 subst c;subst d;rw[u32_or_nat _ _ (by omega) (by omega),Nat.or_comm,Nat.two_pow_add_eq_or_of_lt e]
theorem Qhk(t:Nat)(h:0<t):nb (t / 2)+1=nb t:=by
 unfold nb;by_cases a:t=1
 · subst a;rfl
 ·
  rw[if_neg (by omega),if_neg (by omega)];have:t.log2=(t / 2).log2+1:=by
   rw[Nat.log2_def,if_pos (by omega)]
  omega
theorem Qm2(k b a:Nat)(h:b<2 ^ k)(c:0<a):nb (b+2 ^ k*a)=k+nb a:=by
 have e:=Qe8 a;have f:nb (b+2 ^ k*a)≤k+nb a:=by
  apply nb_le;rw[Nat.pow_add];have:=Nat.mul_le_mul_left (2 ^ k) (show a+1≤2 ^ nb a by omega);rw[Nat.mul_add] at this;omega
 have g:k+nb a≤nb (b+2 ^ k*a):=by
  have d:2 ^ (nb a - 1)≤a:=Qhr (by have:=Qdh c;omega);have i:2 ^ (k+(nb a - 1))≤b+2 ^ k*a:=by
   rw[Nat.pow_add];have:=Nat.mul_le_mul_left (2 ^ k) d;omega
  apply Classical.byContradiction;intro j;have l:=Qe8 (b+2 ^ k*a);have m:2 ^ nb (b+2 ^ k*a)≤2 ^ (k+(nb a - 1)):=Nat.pow_le_pow_right (by omega) (by omega);omega
 omega
theorem Num.nb_eq{q:Nat}{l:List Nat}{n:Nat}(h:Num (2 ^ q) l n)(hl:0<l.length):nb n=q*(l.length - 1)+nb (l.getD (l.length - 1) 0):=by
 have c:0<l.getD (l.length - 1) 0:=by
  rcases h.trim with rfl|d
  · simp at hl
  · omega
 have e:=Qaj (2 ^ q) l (l.length - 1) (by omega);have a:=Qap (2 ^ q) l (l.length - 1) (by omega);rw[show l.length - 1+1=l.length from by omega,List.drop_of_length_le (Nat.le_refl _)] at a;simp only[val,Nat.mul_zero,Nat.add_zero] at a;rw[h.eq,a,←Nat.pow_mul] at e;have b:=Qab (Nat.pow_pos (by omega)) (h.small.take (l.length - 1));rw[List.length_take,Nat.min_eq_left (by omega),←Nat.pow_mul] at b;rw[e,Qm2 _ _ _ b c]
theorem Qm3(B j d e r:Nat)(rs l:List Nat)(a:j<rs.length)(hl:j<l.length)(b:l.getD j 0=e)(h:val B (rs.drop (j+1))*d+r=val B (l.drop (j+1))):
 val B ((rs.set j ((B*r+e) / d)).drop j)*d+(B*r+e) % d=val B (l.drop j):=by
 rw[Qap B l j hl,b,←h,Qcq _ j (by simp;omega),Qbo,List.drop_set_of_lt (by omega),List.getD_eq_getElem?_getD,List.getElem?_set_self a];have c:=Nat.div_add_mod (B*r+e) d;simp only[Option.getD_some,Nat.add_mul];rw[Nat.mul_comm d] at c;rw[Nat.mul_add,Nat.mul_assoc];omega
theorem Qe3{s:Nat}(a:s<32):2 ^ s≤2147483648:=by
 have:=Nat.pow_le_pow_right (n:=2) (by omega) (show s≤31 by omega);exact this
theorem Qe4{s:Nat}(a:s≤32):2 ^ s*2 ^ (32 - s)=4294967296:=by
 rw[←Nat.pow_add,show s+(32 - s)=32 from by omega]
theorem Qdc(d s:Nat)(a:s≤32):d*2 ^ s % 4294967296=2 ^ s*(d % 2 ^ (32 - s)):=by
 rw[←Qe4 a,Nat.mul_comm d,Nat.mul_mod_mul_left]
theorem Qm4(d s:Nat)(a:s≤32):d*2 ^ s % 4294967296+2 ^ s≤4294967296:=by
 rw[Qdc d s a];have b:d % 2 ^ (32 - s)+1≤2 ^ (32 - s):=Nat.mod_lt _ (Nat.pow_pos (by omega));have c:=Nat.mul_le_mul_left (2 ^ s) b;rw[Qe4 a,Nat.mul_add] at c;omega
theorem Qb3(n:Nat)(h:n<18446744073709551616):IntKind.u64.wrap (n:Int)=(n:Int):=by
 simp[IntKind.wrap,IntKind.signed,IntKind.bits];omega
theorem Qm5(d s z:Nat)(a:s<32)(b:d<4294967296)(c:z<2 ^ s):
 bits .or .u32 (z:Int) (IntKind.u64.wrap ((d:Int)*2 ^ (s % 32)) % 4294967296)=((d*2 ^ s % 4294967296+z:Nat):Int)∧
 bits .or .u32 0 (IntKind.u64.wrap ((d:Int)*2 ^ (s % 32)) / 4294967296 % 4294967296)=((d*2 ^ s / 4294967296:Nat):Int)∧
 d*2 ^ s % 4294967296+z<4294967296∧d*2 ^ s / 4294967296<2 ^ s:=by
 have e:=Qe3 a;have h:d*2 ^ s≤4294967295*2147483648:=Nat.mul_le_mul (by omega) e;have i:=Qm4 d s (by omega);have f:d*2 ^ s / 4294967296<2 ^ s:=by
  rw[Nat.div_lt_iff_lt_mul (by omega),Nat.mul_comm (2 ^ s)];exact Nat.mul_lt_mul_of_pos_right b (Nat.pow_pos (by omega))
 have g:IntKind.u64.wrap ((d:Int)*2 ^ (s % 32))=((d*2 ^ s:Nat):Int):=by
  rw[Nat.mod_eq_of_lt a];have:((d:Int)*2 ^ s)=((d*2 ^ s:Nat):Int):=by simp
  rw[this,Qb3 _ (by omega)]
 rw[g];refine⟨?_,?_,by omega,f⟩
 · rw[or32' (((d*2 ^ s:Nat):Int) % 4294967296) (z:Int) (d % 2 ^ (32 - s)) z s (by rw[←Qdc d s (by omega)];omega) rfl c (by rw[←Qdc d s (by omega)];omega),←Qdc d s (by omega)]
 ·
  rw[show (((d*2 ^ s:Nat):Int) / 4294967296 % 4294967296)=((d*2 ^ s / 4294967296:Nat):Int) from by omega];have:=u32_or_nat 0 (d*2 ^ s / 4294967296) (by omega) (by omega);rw[Nat.zero_or] at this;exact this
theorem Qm6(k d s z:Nat)(rs l:List Nat)(hk:k+1<rs.length)(a:l.getD k 0=d)(b:rs.getD k 0=z)(h:val 4294967296 (rs.take (k+1))=val 4294967296 (l.take k)*2 ^ s):
 val 4294967296 (((rs.set k (d*2 ^ s % 4294967296+z)).set (k+1) (d*2 ^ s / 4294967296)).take (k+1+1))=val 4294967296 (l.take (k+1))*2 ^ s:=by
 rw[take_set _ _ _ (by simp;omega),Qal,List.length_take,Nat.min_eq_left (by simp;omega),take_set _ _ _ (by omega),Qal,List.length_take,Nat.min_eq_left (by omega)];rw[Qae,b] at h;rw[Qae _ l,a,Nat.add_mul,←h,Nat.pow_succ,Nat.mul_add,Nat.mul_assoc (4294967296 ^ k) d];have e:=Nat.mod_add_div (d*2 ^ s) 4294967296;have c:4294967296 ^ k*(d*2 ^ s % 4294967296+4294967296*(d*2 ^ s / 4294967296))=4294967296 ^ k*(d*2 ^ s):=by rw[e]
 rw[Nat.mul_add,←Nat.mul_assoc] at c;omega
theorem Qm7(d e s:Nat)(k:s<32)(l:d<4294967296):((4294967296*e+d) / 2 ^ s % 4294967296)*2 ^ s+d % 2 ^ s=d+4294967296*(e % 2 ^ s):=by
 have b:0<2 ^ s:=Nat.pow_pos (by omega);have a:=Qe4 (s:=s) (by omega);generalize hP:2 ^ s=p at*;generalize hT:2 ^ (32 - s)=t at*;have c:(4294967296*e+d) / p=t*e+d / p:=by
  rw[←a,Nat.mul_assoc,Nat.mul_add_div b]
 have f:=Nat.div_add_mod e p;have g:t*e=4294967296*(e / p)+t*(e % p):=by
  conv=>lhs;rw[←f]
  rw[Nat.mul_add,←Nat.mul_assoc,Nat.mul_comm t p,a]
 have m:d / p<t:=by rw[Nat.div_lt_iff_lt_mul b,Nat.mul_comm];omega
 have h:e % p+1≤p:=Nat.mod_lt _ b;have i:=Nat.mul_le_mul_left t h;rw[Nat.mul_add,Nat.mul_comm t p,a] at i;rw[c,g,Nat.add_assoc,Nat.mul_add_mod,Nat.mod_eq_of_lt (by omega),Nat.add_mul];have j:=Nat.div_add_mod d p;rw[Nat.mul_comm p] at j;have n:t*(e % p)*p=4294967296*(e % p):=by
  rw[Nat.mul_comm (t*(e % p)) p,←Nat.mul_assoc,a]
 omega
theorem Qhl(k d e s m0:Nat)(rs l:List Nat)(c:s<32)(a:d<4294967296)(hk:k<rs.length)(b:l.getD k 0=d)(f:l.getD (k+1) 0=e)
 (h:val 4294967296 (rs.take k)*2 ^ s+m0=val 4294967296 (l.take k)+4294967296 ^ k*(l.getD k 0 % 2 ^ s)):
 val 4294967296 ((rs.set k ((4294967296*e+d) / 2 ^ s % 4294967296)).take (k+1))*2 ^ s+m0=val 4294967296 (l.take (k+1))+4294967296 ^ (k+1)*(l.getD (k+1) 0 % 2 ^ s):=by
 have g:=Qm7 d e s c a;rw[take_set _ _ _ hk,Qal,List.length_take,Nat.min_eq_left (by omega),Qae _ l,b,f,Nat.add_mul,Nat.pow_succ];rw[b] at h;have i:4294967296 ^ k*(((4294967296*e+d) / 2 ^ s % 4294967296)*2 ^ s+d % 2 ^ s)=4294967296 ^ k*(d+4294967296*(e % 2 ^ s)):=by rw[g]
 rw[Nat.mul_add,Nat.mul_add,←Nat.mul_assoc,←Nat.mul_assoc] at i;omega
theorem Qhm(v s:Nat)(a:s<32):(v:Int) / 2 ^ (s % 32) % 4294967296=((v / 2 ^ s % 4294967296:Nat):Int):=by
 rw[Nat.mod_eq_of_lt a];simp
theorem Qb2(a:Vx)(g:Nat)(l:Vy)(x:Nat)(w:Vz)(h:U32 w a g l x)(hl:l.length<=2):
 Calls prog 234 #[.slice a l.length g] w fun e p=>e=.returned (.int .u64 x)/\p=w:=by
 have c:=h.num.eq
 match l,hl,h,c with
 | [],_,h,c=>
   simp only[val] at c;subst c;go_enter func234,ntmps234;go_wp2;go_ret;exact⟨rfl,rfl⟩
 | [d],_,h,c=>
   obtain⟨b,i,rfl,k,f⟩:=h.row.cell 0 (by simp);have n:d<4294967296:=h.num.small d (by simp);simp[val] at c f;subst c;clear h;go_enter func234,ntmps234;go_wp2;go_ret;exact⟨rfl,rfl⟩
 | [d,e],_,h,c=>
   obtain⟨b,i,rfl,k,f⟩:=h.row.cell 0 (by simp);obtain⟨q,j,o,r,m⟩:=h.row.cell 1 (by simp);obtain⟨rfl,rfl⟩:b=q/\i=j:=by simpa using o
   have n:d<4294967296:=h.num.small d (by simp);have t:e<4294967296:=h.num.small e (by simp);simp[val] at c f m;have u:O (d+4294967296*e=x):=c;have s:bits .or .u64 (d:Int) ((e:Int)*4294967296)=(x:Int):=by
    rw[or64' ((e:Int)*4294967296) (d:Int) e d 32 (by omega) rfl n (by omega)];omega
   clear h o c;go_enter func234,ntmps234;go_wp2;go_ret;exact⟨rfl,rfl⟩
theorem Qmu(a:Vx)(c d:Nat)(l:Vy)(x:Nat)(w:Vz)(h:U32 w a c l x)(g:0<d)(hd:d<4294967296):
 Calls prog 192 #[.slice a l.length c,.int .u32 d] w fun e K=>(∃a c r,e=.returned (.tuple #[.slice a r.length c,.int .u32 (x % d:Nat)])/\U32 K a c r (x / d))/\Below w.heap.size w K:=by
 have s1:=h.short;have D:∀w,(Instr.makeSlice 119 (.int .i64 (l.length:Int)) (.int .i64 (l.length:Int))).run prog w=.ok (.slice (some ⟨w.heap.size,0,none⟩) l.length l.length) (w.alloc (.cells (wordCells .u32 (zeros l.length)) 233)):=
  fun w=>Qa8 _ l.length rfl (by omega) w
 go_enter func192,ntmps192;go_wp2;clear D;go_loopw [7,8] (fun r i wr=>∃(k f:Nat) (rs:Vy),k<=l.length/\f<d/\r=.int .u64 f/\i=.int .i64 ((k:Int) - 1)/\Blk .u32 233 wr w.heap.size rs/\rs.length=l.length/\Small 4294967296 rs/\
  val 4294967296 (rs.drop k)*d+f=val 4294967296 (l.drop k)/\Below w.heap.size w wr) (fun _ i _=>(intOf i+1).toNat)
 case atStart=>exact⟨l.length,0,zeros l.length,Nat.le_refl _,g,rfl,rfl,Blk.new _ _ _ _,Qah _,Qaq _ _ (by omega),by rw[List.drop_of_length_le (by rw[Qah];exact Nat.le_refl _),List.drop_of_length_le lZ];simp[val],bR.alloc lZ _⟩
 case round=>
  obtain⟨k,r,rs,hk,L,rfl,rfl,hB,n,y,M,E⟩:=hrel;have N:O (val 4294967296 (rs.drop k)*d+r=val 4294967296 (l.drop k)):=M;have p:O (rs.length=l.length):=n;have P:O (Blk .u32 233 wr w.heap.size rs):=hB;have A:O (Small 4294967296 rs):=y;clear M y;by_cases V:k=0
  .
   subst V;have B:=N.o;simp only[List.drop_zero,h.num.eq] at B;have t:val 4294967296 rs=x / d:=by
    rw[<-B,Nat.mul_comm,Nat.mul_add_div g,Nat.div_eq_of_lt L,Nat.add_zero]
   have Q:x % d=r:=by
    rw[<-B,Nat.mul_comm,Nat.mul_add_mod,Nat.mod_eq_of_lt L]
   have W:O (x % d=r):=Q;clear n hB B Q;have X:O (val 4294967296 rs=x / d):=t;clear t;go_wp2_with fail;refine(Qaz w.heap.size l.length l.length (x / d) rs _ P.o p.o A.o lZ (by omega) X.o).mono ?_;rintro e w1 ⟨⟨a,c,r,rfl,Y⟩,rfl⟩;go_wp2;go_ret2;exact⟨⟨a,c,r,by rw[W.o];rfl,Y⟩,E⟩
  .
   obtain⟨j,rfl⟩:∃j,k=j+1:=⟨k - 1,by omega⟩;obtain⟨b,Z,rfl,F,u⟩:=h.row.cell j (by omega);obtain⟨e,C⟩:=nm (l.getD j 0);have G:e<4294967296:=by rw[<-C];exact h.num.small.getD (by omega) j
   rw[C] at u;have R:=ce E F u;have H1:O (l.getD j 0=e):=C;obtain⟨z,S⟩:=nm (rs.getD j 0);have g1:=hB.free j;have g2:=hB.cell j (by omega);rw[S] at g2;clear C u S hB n;have T:((j+1:Nat):Int) - 1=(j:Int):=by omega
   rw[T];clear T;have aa:((d:Int) == 0)=false:=by rw[beq_eq_false_iff_ne];omega
   obtain⟨s,U⟩:=nm (4294967296*r+e);have ab:bits .or .u64 ((r:Int)*4294967296) (e:Int)=(s:Int):=by
    rw[or64 ((r:Int)*4294967296) (e:Int) r e 32 (by omega) rfl G (by omega)];omega
   obtain⟨q,t⟩:=nm (s / d);obtain⟨f,m⟩:∃f,s % d=f:=⟨_,rfl⟩;have H:q<4294967296:=by
    rw[<-t,Nat.div_lt_iff_lt_mul g];have:=Nat.mul_le_mul_left 4294967296 (show r+1<=d by omega);omega
   have I:f<d:=by rw[<-m];exact Nat.mod_lt _ g
   have v:=Qm3 4294967296 j d e r rs l (by have:=p.o;omega) (by omega) H1.o N.o;rw[U,t,m] at v;have t1:(s:Int) / (d:Int)=(q:Int):=by rw[<-t];simp
   have t2:(s:Int) % (d:Int)=(f:Int):=by rw[<-m];simp
   have ad:s<18446744073709551616:=by omega
   have J:O (val 4294967296 ((rs.set j q).drop j)*d+f=val 4294967296 (l.drop j)):=v;clear t m v U;go_wp2;go_roundw
   case rel=>exact⟨j,f,rs.set j q,by omega,I,by rw[t2],rfl,P.o.set j q,by rw[List.length_set];exact p.o,A.o.set j H,J.o,E.setCell lZ _⟩
   case measure=>simp[intOf]
theorem Qmv(a:Vx)(f:Nat)(l:Vy)(x:Nat)(w:Vz)(h:U32 w a f l x):
 Calls prog 235 #[.slice a l.length f] w fun e C=>e=.returned (.int .i64 (nb x))/\C=w:=by
 have D:=h.short;by_cases i:l.length=0
 .
  have E:x=0:=(h.num.len_zero (by omega)).2 i;have s:((l.length:Int) == 0)=true:=by simp[i]
  subst E;clear i;go_enter func235,ntmps235;go_wp2;go_ret;exact⟨rfl,rfl⟩
 .
  have s:((l.length:Int) == 0)=false:=by rw[beq_eq_false_iff_ne];omega
  have c:=Num.nb_eq (q:=32) h.num (by omega);obtain⟨b,F,rfl,G,d⟩:=h.row.cell (l.length - 1) (by omega);obtain⟨t,k⟩:=nm (l.getD (l.length - 1) 0);have p:t<4294967296:=by rw[<-k];exact h.num.small.getD (by omega) _
  have H:nb t<=32:=nb_le (by omega);rw[k] at d c;have r:O (nb x=32*(l.length - 1)+nb t):=c;clear k c;obtain⟨j,y⟩:∃j,l.length=j+1:=⟨l.length - 1,by omega⟩;rw[y] at d r s D ⊢;clear y i;simp only[Nat.add_sub_cancel] at d r;go_enter func235,ntmps235;go_wp2;go_loop [3,4] (fun n v=>∃m u:Nat,nb u+m=nb t/\u<4294967296/\n=.int .i64 m/\v=.int .u32 u) (fun n v=>nb (intOf v).toNat)
  case atStart=>exact⟨0,t,rfl,p,rfl,rfl⟩
  case round=>
   obtain⟨m,u,g,I,rfl,rfl⟩:=hrel;have z:O (nb u+m=nb t):=g;have A:m<=32:=by omega
   clear g;by_cases J:u=0
   .
    subst J;have K:(((0:Nat):Int) != 0)=false:=by simp
    go_wp2;go_ret;refine⟨?_,rfl⟩;have B:=z.o;have L:=r.o;rw[Qne] at B;exact congrArg (fun n:Int=>Ending.returned (.int .i64 n)) (by omega)
   .
    have K:((u:Int) != 0)=true:=by rw[bne_iff_ne];omega
    go_wp2;go_round
    case rel=>exact⟨m+1,u / 2,by have:=Qhk u (by omega);have:=z.o;omega,by omega,by go_num,congrArg (Value.int IntKind.u32) (by omega)⟩
    case measure=>
     have B:=Qhk u (by omega)
     show nb (((u:Int) / 2).toNat)<nb ((u:Int).toNat)
     rw[show ((u:Int) / 2).toNat=u / 2 from by omega,Int.toNat_natCast];omega
end Go.Proofs.YtkkadnoecklepaaGreatDoor
