import Derived.Test.YtppkmifkpjkgpaaGreatDoorChecked
import Derived.WalkKit
import Derived.Below
import Derived.OwnWalk
import Derived.Outline
import Derived.Deep.OwnRows
import Derived.RegionTactic
import Derived.ChangeAlike
namespace Go.Proofs.YtppkmifkpjkgpaaGreatDoor
set_option linter.unusedSimpArgs false
set_option linter.unusedVariables false
set_option maxHeartbeats 8000000
set_option maxRecDepth 1000000
def val(B:Nat):List Nat→Nat
 | []=>0
 |d :: l=>d+B*val B l
theorem Qct(B:Nat):val B []=0:=rfl
theorem Qby(B d:Nat)(l:List Nat):val B (d :: l)=d+B*val B l:=rfl
theorem Qcu(B:Nat)(l m:List Nat):val B (l++m)=val B l+B ^ l.length*val B m:=by
 induction l with
 |nil=>simp[val]
 |cons d l a=>
  simp only[List.cons_append,val,a,List.length_cons,Nat.pow_succ,Nat.mul_add,Nat.add_assoc];rw[Nat.mul_comm (B ^ l.length) B,Nat.mul_assoc]
theorem Qaj(B:Nat)(l:List Nat)(d:Nat):val B (l++ [d])=val B l+B ^ l.length*d:=by
 rw[Qcu];simp[val]
def Small(B:Nat)(l:List Nat):Prop:=∀d,d∈ l→d<B
theorem Small.nil(B:Nat):Small B []:=fun d h=>by cases h
theorem Small.append{B:Nat}{l m:List Nat}(h:Small B l)(k:Small B m):Small B (l++m):=fun d b=>by
 rcases List.mem_append.1 b with a|a
 · exact h d a
 · exact k d a
theorem Small.take{B:Nat}{l:List Nat}(h:Small B l)(n:Nat):Small B (l.take n):=fun d a=>h d (List.mem_of_mem_take a)
theorem Small.drop{B:Nat}{l:List Nat}(h:Small B l)(n:Nat):Small B (l.drop n):=fun d a=>h d (List.mem_of_mem_drop a)
theorem Small.set{B:Nat}{l:List Nat}(h:Small B l)(i:Nat){d:Nat}(k:d<B):Small B (l.set i d):=fun e b=>by
 rcases List.mem_or_eq_of_mem_set b with a|a
 · exact h e a
 · subst a;exact k
theorem Small.getD{B:Nat}{l:List Nat}(h:Small B l)(hB:0<B)(i:Nat):l.getD i 0<B:=by
 by_cases a:i<l.length
 · rw[List.getD_eq_getElem?_getD,List.getElem?_eq_getElem a]
   exact h _ (List.getElem_mem a)
 · rw[List.getD_eq_getElem?_getD,List.getElem?_eq_none (by omega)]
   exact hB
theorem Small.replicate(B n:Nat)(hB:0<B):Small B (List.replicate n 0):=fun d a=>by
 have:=List.eq_of_mem_replicate a;omega
theorem Qaa{B:Nat}{l:List Nat}(hB:0<B)(h:Small B l):val B l<B ^ l.length:=by
 induction l with
 |nil=>simp[val]
 |cons d l a=>
  have b:=a (fun e c=>h e (List.mem_cons_of_mem _ c));have g:=h d (List.mem_cons_self ..);simp only[val,List.length_cons,Nat.pow_succ];rw[Nat.mul_comm (B ^ l.length) B];have f:B*(val B l+1)≤B*B ^ l.length:=Nat.mul_le_mul_left B b;rw[Nat.mul_add] at f;omega
theorem Qnw(B n:Nat):val B (List.replicate n 0)=0:=by
 induction n with
 |zero=>rfl
 |succ n a=>simp[List.replicate_succ,val,a]
theorem Qbz(B:Nat)(l:List Nat)(k:Nat)(h:k<l.length):val B (l.take (k+1))=val B (l.take k)+B ^ k*l.getD k 0:=by
 rw[List.take_succ_eq_append_getElem h,Qaj,List.length_take,Nat.min_eq_left (by omega),List.getD_eq_getElem?_getD,List.getElem?_eq_getElem h];rfl
theorem Qa9(B:Nat)(l:List Nat)(k:Nat)(h:l.length≤k):val B (l.take k)=val B l:=by
 rw[List.take_of_length_le h]
theorem Qac(B:Nat)(l:List Nat)(k:Nat):val B (l.take (k+1))=val B (l.take k)+B ^ k*l.getD k 0:=by
 by_cases h:k<l.length
 · exact Qbz B l k h
 · rw[Qa9 _ _ _ (by omega),Qa9 _ _ _ (by omega),List.getD_eq_getElem?_getD,List.getElem?_eq_none (by omega)]
   simp
theorem Qah(B:Nat)(l:List Nat)(k:Nat)(h:k≤l.length):val B l=val B (l.take k)+B ^ k*val B (l.drop k):=by
 conv=>lhs;rw[←List.take_append_drop k l]
 rw[Qcu,List.length_take,Nat.min_eq_left h]
theorem Qcv(l:List Nat)(k:Nat)(h:k<l.length):l.drop k=l.getD k 0 :: l.drop (k+1):=by
 rw[List.drop_eq_getElem_cons h,List.getD_eq_getElem?_getD,List.getElem?_eq_getElem h];rfl
theorem Qal(B:Nat)(l:List Nat)(k:Nat)(h:k<l.length):val B (l.drop k)=l.getD k 0+B*val B (l.drop (k+1)):=by
 rw[Qcv l k h,Qby]
theorem take_set(l:List Nat)(k d:Nat)(h:k<l.length):(l.set k d).take (k+1)=l.take k++ [d]:=by
 rw[List.take_succ_eq_append_getElem (by simpa using h),List.take_set_of_le (Nat.le_refl _)];simp
def Trim(l:List Nat):Prop:=l= []∨l.getD (l.length - 1) 0≠0
theorem Trim.pow_le{B:Nat}{l:List Nat}(h:Trim l)(hl:0<l.length):B ^ (l.length - 1)≤val B l:=by
 rcases h with rfl|h
 · simp at hl
 ·
  have e:=Qah B l (l.length - 1) (by omega);have a:=Qal B l (l.length - 1) (by omega);rw[e,a];have b:1≤l.getD (l.length - 1) 0+B*val B (l.drop (l.length - 1+1)):=by omega
  have:=Nat.mul_le_mul_left (B ^ (l.length - 1)) b;omega
theorem Qnx{B:Nat}{l:List Nat}(hB:0<B)(h:Trim l):val B l=0↔l= []:=by
 constructor
 ·
  intro e;by_cases hl:0<l.length
  ·
   have a:=h.pow_le (B:=B) hl;have b:0<B ^ (l.length - 1):=Nat.pow_pos hB;omega
  · exact List.eq_nil_of_length_eq_zero (by omega)
 · rintro rfl;rfl
theorem Qcd{B:Nat}(hB:0<B){m n:Nat}(h:m≤n):B ^ m≤B ^ n:=Nat.pow_le_pow_right hB h
theorem Qax{B:Nat}{l m:List Nat}(hB:0<B)(hl:Small B l)(a:Trim m)(h:l.length<m.length):val B l<val B m:=by
 have b:=Qaa hB hl;have c:=a.pow_le (B:=B) (by omega);have d:=Qcd hB (show l.length≤m.length - 1 by omega);omega
theorem Qh2{B:Nat}{d:Nat}{x:Nat}(h:d<B):(d+B*x) % B=d:=by
 rw[Nat.add_mul_mod_self_left,Nat.mod_eq_of_lt h]
theorem Qh3{B:Nat}{d:Nat}{x:Nat}(h:d<B):(d+B*x) / B=x:=by
 rw[Nat.add_mul_div_left _ _ (by omega),Nat.div_eq_of_lt h,Nat.zero_add]
theorem Qh4{B:Nat}:∀{l m:List Nat},Small B l→Small B m→l.length=m.length→val B l=val B m→l=m
 | [],[],_,_,_,_=>rfl
 | [],_ :: _,_,_,h,_=>by simp at h
 |_ :: _,[],_,_,h,_=>by simp at h
 |d :: l,e :: m,h1,h2,h3,h4=>by
  have b:=h1 d (List.mem_cons_self ..);have c:=h2 e (List.mem_cons_self ..);simp only[val] at h4;have f:d=e:=by rw[←Qh2 (x:=val B l) b,←Qh2 (x:=val B m) c,h4]
  have g:val B l=val B m:=by rw[←Qh3 (x:=val B l) b,←Qh3 (x:=val B m) c,h4]
  rw[f,Qh4 (fun x a=>h1 x (List.mem_cons_of_mem _ a)) (fun x a=>h2 x (List.mem_cons_of_mem _ a)) (by simpa using h3) g]
structure Num (B:Nat) (l:List Nat) (n:Nat):Prop where
 small:Small B l
 trim:Trim l
 eq:val B l=n
theorem Num.inj{B:Nat}{l m:List Nat}{n:Nat}(hB:0<B)(h:Num B l n)(k:Num B m n):l=m:=by
 have e:l.length=m.length:=by
  rcases Nat.lt_trichotomy l.length m.length with a|a|a
  · have:=Qax hB h.small k.trim a;have:=h.eq;have:=k.eq;omega
  · exact a
  · have:=Qax hB k.small h.trim a;have:=h.eq;have:=k.eq;omega
 exact Qh4 h.small k.small e (h.eq.trans k.eq.symm)
theorem Num.zero(B:Nat):Num B [] 0:=⟨Small.nil B,.inl rfl,rfl⟩
theorem Num.nil_iff{B:Nat}{l:List Nat}{n:Nat}(hB:0<B)(h:Num B l n):n=0↔l= []:=by
 rw[←h.eq];exact Qnx hB h.trim
theorem Num.len_zero{B:Nat}{l:List Nat}{n:Nat}(hB:0<B)(h:Num B l n):n=0↔l.length=0:=by
 rw[h.nil_iff hB];exact List.length_eq_zero_iff.symm
theorem Num.length_le_of_lt{B:Nat}{l:List Nat}{n k:Nat}(hB:0<B)(h:Num B l n)(b:n<B ^ k):l.length≤k:=by
 apply Classical.byContradiction;intro c;have a:=h.trim.pow_le (B:=B) (by omega);have d:=Qcd hB (show k≤l.length - 1 by omega);rw[h.eq] at a;omega
def nb(n:Nat):Nat:=if n=0 then 0 else n.log2+1
theorem Qfd(n:Nat):n<2 ^ nb n:=by
 unfold nb
 split
 · omega
 · exact Nat.lt_log2_self
theorem nb_le{n k:Nat}(h:n<2 ^ k):nb n≤k:=by
 unfold nb
 split
 · omega
 · rename_i a
   exact(Nat.log2_lt a).2 h
theorem Qny:nb 0=0:=rfl
theorem Qdo{n:Nat}(h:0<n):1≤nb n:=by unfold nb;rw[if_neg (by omega)];omega
theorem Qh5{n k:Nat}(h:k<nb n):2 ^ k≤n:=by
 apply Classical.byContradiction;intro a;have:=nb_le (n:=n) (k:=k) (by omega);omega
theorem Num.nb_le{q:Nat}{l:List Nat}{n:Nat}(h:Num (2 ^ q) l n):nb n≤q*l.length:=by
 apply Go.Proofs.YtppkmifkpjkgpaaGreatDoor.nb_le;have:=Qaa (Nat.pow_pos (by omega)) h.small;rw[h.eq,←Nat.pow_mul] at this;exact this
def cmp3(x y:Nat):Int:=if x<y then -1 else if x=y then 0 else 1
theorem Qcw{x y:Nat}(h:x<y):cmp3 x y= -1:=by unfold cmp3;rw[if_pos h]
theorem Qh6{x y:Nat}(h:x=y):cmp3 x y=0:=by unfold cmp3;rw[if_neg (by omega),if_pos h]
theorem Qdp{x y:Nat}(h:y<x):cmp3 x y=1:=by unfold cmp3;rw[if_neg (by omega),if_neg (by omega)]
theorem Qay(x y:Nat):cmp3 x y<0↔x<y:=by
 unfold cmp3
 split
 · simp;assumption
 · split<;>simp<;>omega
theorem Qnz(x y:Nat): -1≤cmp3 x y∧cmp3 x y≤1:=by
 unfold cmp3
 split
 · omega
 · split<;>omega
theorem Qdq{B:Nat}(hB:0<B){l m:List Nat}(hl:Small B l)(j:Nat)(a:j<l.length)(b:j<m.length)(c:l.drop (j+1)=m.drop (j+1))(h:l.getD j 0<m.getD j 0):val B l<val B m:=by
 rw[Qah B l j (by omega),Qah B m j (by omega),Qal B l j a,Qal B m j b,c];have d:=Qaa hB (hl.take j);rw[List.length_take,Nat.min_eq_left (by omega)] at d;have e:B ^ j*(l.getD j 0+B*val B (m.drop (j+1))+1)≤B ^ j*(m.getD j 0+B*val B (m.drop (j+1))):=Nat.mul_le_mul_left _ (by omega);rw[Nat.mul_add _ _ 1] at e;omega
theorem Qh7{l m:List Nat}{j:Nat}(a:j<l.length)(b:j<m.length)(c:l.drop (j+1)=m.drop (j+1))(h:l.getD j 0=m.getD j 0):l.drop j=m.drop j:=by
 rw[Qcv l j a,Qcv m j b,c,h]
theorem Qn0(B k c t R:Nat)(rs:List Nat)(hk:k<rs.length)(h:val B (rs.take k)+B ^ k*c=R):
 val B ((rs.set k ((c+t) % B)).take (k+1))+B ^ (k+1)*((c+t) / B)=R+B ^ k*t:=by
 rw[take_set _ _ _ hk,Qaj,List.length_take,Nat.min_eq_left (by omega),Nat.pow_succ];have e:=Nat.mod_add_div (c+t) B;have a:B ^ k*((c+t) % B+B*((c+t) / B))=B ^ k*(c+t):=by rw[e]
 rw[Nat.mul_add,Nat.mul_add,←Nat.mul_assoc] at a;omega
theorem Qb0(l:List Nat)(k:Nat)(h:l.length≤k):l.getD k 0=0:=by
 rw[List.getD_eq_getElem?_getD,List.getElem?_eq_none h];rfl
theorem Qfe(B:Nat)(rs:List Nat)(n c:Nat)(h:rs.length=n+1):val B (rs.set n c)=val B (rs.take n)+B ^ n*c:=by
 rw[←Qa9 B (rs.set n c) (n+1) (by simp;omega),take_set _ _ _ (by omega),Qaj,List.length_take,Nat.min_eq_left (by omega)]
theorem Qdr(k c d e:Nat)(rs l m:List Nat)(hk:k<rs.length)(a:l.getD k 0=d)(b:m.getD k 0=e)
 (h:val 4294967296 (rs.take k)+4294967296 ^ k*c=val 4294967296 (l.take k)+val 4294967296 (m.take k)):
 val 4294967296 ((rs.set k ((c+(d+e)) % 4294967296)).take (k+1))+4294967296 ^ (k+1)*((c+(d+e)) / 4294967296)=val 4294967296 (l.take (k+1))+val 4294967296 (m.take (k+1)):=by
 rw[Qn0 _ _ _ _ _ _ hk h,Qac,Qac,a,b,Nat.mul_add];omega
theorem Qff(B k c d e r a:Nat)(rs l m:List Nat)(hk:k<rs.length)(b:l.getD k 0=d)(f:m.getD k 0=e)(g:r+c+e=d+B*a)
 (h:val B (rs.take k)+val B (m.take k)=val B (l.take k)+B ^ k*c):
 val B ((rs.set k r).take (k+1))+val B (m.take (k+1))=val B (l.take (k+1))+B ^ (k+1)*a:=by
 rw[take_set _ _ _ hk,Qaj,List.length_take,Nat.min_eq_left (by omega),Qac,Qac,b,f,Nat.pow_succ];have i:B ^ k*(r+c+e)=B ^ k*(d+B*a):=by rw[g]
 rw[Nat.mul_add,Nat.mul_add,Nat.mul_add,←Nat.mul_assoc] at i;omega
theorem Qh8(d c e:Nat)(b:d<4294967296)(f:e<4294967296)(g:c≤1):∃r a:Nat,r<4294967296∧a≤1∧r+c+e=d+4294967296*a∧
 ((((d:Int) - c) % 18446744073709551616 - e) % 18446744073709551616) % 4294967296=(r:Int)∧((((d:Int) - c) % 18446744073709551616 - e) % 18446744073709551616) / 9223372036854775808=(a:Int):=by
 by_cases h:d<c+e
 · exact⟨d+4294967296 - c - e,1,by omega,by omega,by omega,by omega,by omega⟩
 · exact⟨d - c - e,0,by omega,by omega,by omega,by omega,by omega⟩
theorem Qbh(B:Nat)(l:List Nat)(k d:Nat)(h:k<l.length):val B (l.set k d)+B ^ k*l.getD k 0=val B l+B ^ k*d:=by
 have a:=Qah B (l.set k d) (k+1) (by simp;omega);have b:=Qah B l (k+1) (by omega);rw[take_set _ _ _ h,Qaj,List.length_take,Nat.min_eq_left (by omega),List.drop_set_of_lt (by omega)] at a;rw[Qbz B l k h] at b;omega
theorem Qh9(l:List Nat)(k d q:Nat):(l.set k d).take q=(l.take q).set k d:=by
 rw[List.take_set]
theorem Qfg(l:List Nat)(q k:Nat)(h:k<q):(l.take q).getD k 0=l.getD k 0:=by
 rw[List.getD_eq_getElem?_getD,List.getD_eq_getElem?_getD,List.getElem?_take_of_lt h]
theorem Qia(B p q c t d R:Nat)(rs:List Nat)(i:q≤rs.length)(a:p<q)(b:rs.getD p 0=d)(h:val B (rs.take q)+B ^ p*c=R):
 val B ((rs.set p ((c+(t+d)) % B)).take q)+B ^ (p+1)*((c+(t+d)) / B)=R+B ^ p*t:=by
 rw[Qh9];have f:=Qbh B (rs.take q) p ((c+(t+d)) % B) (by rw[List.length_take];omega);rw[Qfg _ _ _ a,b] at f;have e:=Nat.mod_add_div (c+(t+d)) B;have g:B ^ p*((c+(t+d)) % B+B*((c+(t+d)) / B))=B ^ p*(c+(t+d)):=by rw[e]
 rw[Nat.mul_add,Nat.mul_add,Nat.mul_add,←Nat.mul_assoc] at g;rw[Nat.pow_succ];omega
theorem Qds{B d e:Nat}(a:d<B)(b:e<B):d*e≤(B - 1)*(B - 1):=Nat.mul_le_mul (by omega) (by omega)
theorem Qn1(B k i d e t q c z V:Nat)(rs m:List Nat)(a:t=d*e)(b:m.getD i 0=e)(f:q≤rs.length)(g:k+i<q)(j:rs.getD (k+i) 0=z)
 (h:val B (rs.take q)+B ^ (k+i)*c=V+B ^ k*(d*val B (m.take i))):
 val B ((rs.set (k+i) ((c+(t+z)) % B)).take q)+B ^ (k+(i+1))*((c+(t+z)) / B)=V+B ^ k*(d*val B (m.take (i+1))):=by
 rw[show k+(i+1)=k+i+1 from by omega,Qia B (k+i) q c t z _ rs f g j h,Qac,b,a,Nat.pow_add,Nat.mul_add,Nat.mul_add];rw[Nat.mul_left_comm d (B ^ i) e,←Nat.mul_assoc (B ^ k) (B ^ i) (d*e)];omega
theorem Qn2(B k d c y n:Nat)(rs l:List Nat)(a:l.getD k 0=d)(b:k+n<rs.length)
 (h:val B (rs.take (k+n))+B ^ (k+n)*c=val B (l.take k)*y+B ^ k*(d*y)):
 val B ((rs.set (k+n) c).take (k+1+n))=val B (l.take (k+1))*y:=by
 rw[show k+1+n=k+n+1 from by omega,take_set _ _ _ b,Qaj,List.length_take,Nat.min_eq_left (by omega),h,Qac,a,Nat.add_mul,Nat.mul_assoc]
theorem Qbi(l:List Nat)(k d:Nat)(h:k<l.length):(l.set k d).getD k 0=d:=by
 rw[List.getD_eq_getElem?_getD,List.getElem?_set_self h];rfl
theorem getD_set_ne(l:List Nat)(k d j:Nat)(h:k≠j):(l.set k d).getD j 0=l.getD j 0:=by
 rw[List.getD_eq_getElem?_getD,List.getD_eq_getElem?_getD,List.getElem?_set_ne h]
open Go.RowKit
open Go.Proofs.Tryz
abbrev Vz:=World
abbrev Vy:=List Nat
abbrev Vx:=Option Addr
abbrev Vw:=Array Value
abbrev Vv:=List Value
abbrev Vu:=List UInt8
abbrev Vt:=List ByteArray
abbrev Vs:=ByteArray
abbrev Vr:=TypeId
theorem mH{α:Type}{a:α}{l:List α}:a∈a::l:=.head _
theorem mT{α:Type}{a b:α}{l:List α}(h:a∈l):a∈b::l:=.tail _ h
def O(p:Prop):Prop:=p
theorem O.o{p:Prop}(h:O p):p:=h
theorem Hi{p:Prop}(h:p):O p:=h
theorem ce{B:Nat}{w w':Vz}{b i:Nat}{o:Option Value}(h:Below B w w')(a:b<B)(c:w.cell? ⟨b,i,none⟩=o):w'.cell? ⟨b,i,none⟩=o:=(h.cell (p:=⟨b,i,none⟩) a).trans c
theorem nm{α:Type}(a:α):∃x,a=x:=⟨_,rfl⟩
theorem Ia{a b:Prop}(c:a)(d:b):O a∧O b:=⟨c,d⟩
theorem Ja{B:Nat}{w w':Vz}{b:Nat}{a c:Nat}{d e:Option Value}(h:Below B w w')(k:b<B)(f:w.cell? ⟨b,a,none⟩=d)(g:w.cell? ⟨b,c,none⟩=e):w'.cell? ⟨b,a,none⟩=d∧w'.cell? ⟨b,c,none⟩=e:=⟨ce h k f,ce h k g⟩
theorem Ib{a b c:Prop}(d:a)(e:b)(f:c):O a∧O b∧O c:=⟨d,e,f⟩
theorem Jb{B:Nat}{w w':Vz}{b:Nat}{a c d:Nat}{e f g:Option Value}(h:Below B w w')(k:b<B)(i:w.cell? ⟨b,a,none⟩=e)(j:w.cell? ⟨b,c,none⟩=f)(l:w.cell? ⟨b,d,none⟩=g):w'.cell? ⟨b,a,none⟩=e∧w'.cell? ⟨b,c,none⟩=f∧w'.cell? ⟨b,d,none⟩=g:=⟨ce h k i,ce h k j,ce h k l⟩
theorem Ic{a b c d:Prop}(e:a)(f:b)(g:c)(h:d):O a∧O b∧O c∧O d:=⟨e,f,g,h⟩
theorem Jc{B:Nat}{w w':Vz}{b:Nat}{a c d e:Nat}{f g i j:Option Value}(h:Below B w w')(k:b<B)(l:w.cell? ⟨b,a,none⟩=f)(m:w.cell? ⟨b,c,none⟩=g)(n:w.cell? ⟨b,d,none⟩=i)(o:w.cell? ⟨b,e,none⟩=j):w'.cell? ⟨b,a,none⟩=f∧w'.cell? ⟨b,c,none⟩=g∧w'.cell? ⟨b,d,none⟩=i∧w'.cell? ⟨b,e,none⟩=j:=⟨ce h k l,ce h k m,ce h k n,ce h k o⟩
theorem Id{a b c d e:Prop}(f:a)(g:b)(h:c)(i:d)(j:e):O a∧O b∧O c∧O d∧O e:=⟨f,g,h,i,j⟩
theorem Jd{B:Nat}{w w':Vz}{b:Nat}{a c d e f:Nat}{g i j l m:Option Value}(h:Below B w w')(k:b<B)(n:w.cell? ⟨b,a,none⟩=g)(o:w.cell? ⟨b,c,none⟩=i)(p:w.cell? ⟨b,d,none⟩=j)(q:w.cell? ⟨b,e,none⟩=l)(r:w.cell? ⟨b,f,none⟩=m):w'.cell? ⟨b,a,none⟩=g∧w'.cell? ⟨b,c,none⟩=i∧w'.cell? ⟨b,d,none⟩=j∧w'.cell? ⟨b,e,none⟩=l∧w'.cell? ⟨b,f,none⟩=m:=⟨ce h k n,ce h k o,ce h k p,ce h k q,ce h k r⟩
theorem Ie{a b c d e f:Prop}(g:a)(h:b)(i:c)(j:d)(k:e)(l:f):O a∧O b∧O c∧O d∧O e∧O f:=⟨g,h,i,j,k,l⟩
theorem Je{B:Nat}{w w':Vz}{b:Nat}{a c d e f g:Nat}{i j l m n o:Option Value}(h:Below B w w')(k:b<B)(p:w.cell? ⟨b,a,none⟩=i)(q:w.cell? ⟨b,c,none⟩=j)(r:w.cell? ⟨b,d,none⟩=l)(s:w.cell? ⟨b,e,none⟩=m)(t:w.cell? ⟨b,f,none⟩=n)(u:w.cell? ⟨b,g,none⟩=o):w'.cell? ⟨b,a,none⟩=i∧w'.cell? ⟨b,c,none⟩=j∧w'.cell? ⟨b,d,none⟩=l∧w'.cell? ⟨b,e,none⟩=m∧w'.cell? ⟨b,f,none⟩=n∧w'.cell? ⟨b,g,none⟩=o:=⟨ce h k p,ce h k q,ce h k r,ce h k s,ce h k t,ce h k u⟩
theorem If{a b c d e f g:Prop}(h:a)(i:b)(j:c)(k:d)(l:e)(m:f)(n:g):O a∧O b∧O c∧O d∧O e∧O f∧O g:=⟨h,i,j,k,l,m,n⟩
theorem Jf{B:Nat}{w w':Vz}{b:Nat}{a c d e f g i:Nat}{j l m n o p q:Option Value}(h:Below B w w')(k:b<B)(r:w.cell? ⟨b,a,none⟩=j)(s:w.cell? ⟨b,c,none⟩=l)(t:w.cell? ⟨b,d,none⟩=m)(u:w.cell? ⟨b,e,none⟩=n)(v:w.cell? ⟨b,f,none⟩=o)(x:w.cell? ⟨b,g,none⟩=p)(y:w.cell? ⟨b,i,none⟩=q):w'.cell? ⟨b,a,none⟩=j∧w'.cell? ⟨b,c,none⟩=l∧w'.cell? ⟨b,d,none⟩=m∧w'.cell? ⟨b,e,none⟩=n∧w'.cell? ⟨b,f,none⟩=o∧w'.cell? ⟨b,g,none⟩=p∧w'.cell? ⟨b,i,none⟩=q:=⟨ce h k r,ce h k s,ce h k t,ce h k u,ce h k v,ce h k x,ce h k y⟩
theorem Ig{a b c d e f g h:Prop}(i:a)(j:b)(k:c)(l:d)(m:e)(n:f)(o:g)(p:h):O a∧O b∧O c∧O d∧O e∧O f∧O g∧O h:=⟨i,j,k,l,m,n,o,p⟩
theorem Jg{B:Nat}{w w':Vz}{b:Nat}{a c d e f g i j:Nat}{l m n o p q r s:Option Value}(h:Below B w w')(k:b<B)(t:w.cell? ⟨b,a,none⟩=l)(u:w.cell? ⟨b,c,none⟩=m)(v:w.cell? ⟨b,d,none⟩=n)(x:w.cell? ⟨b,e,none⟩=o)(y:w.cell? ⟨b,f,none⟩=p)(z:w.cell? ⟨b,g,none⟩=q)(A:w.cell? ⟨b,i,none⟩=r)(C:w.cell? ⟨b,j,none⟩=s):w'.cell? ⟨b,a,none⟩=l∧w'.cell? ⟨b,c,none⟩=m∧w'.cell? ⟨b,d,none⟩=n∧w'.cell? ⟨b,e,none⟩=o∧w'.cell? ⟨b,f,none⟩=p∧w'.cell? ⟨b,g,none⟩=q∧w'.cell? ⟨b,i,none⟩=r∧w'.cell? ⟨b,j,none⟩=s:=⟨ce h k t,ce h k u,ce h k v,ce h k x,ce h k y,ce h k z,ce h k A,ce h k C⟩
theorem Ih{a b c d e f g h i:Prop}(j:a)(k:b)(l:c)(m:d)(n:e)(o:f)(p:g)(q:h)(r:i):O a∧O b∧O c∧O d∧O e∧O f∧O g∧O h∧O i:=⟨j,k,l,m,n,o,p,q,r⟩
theorem Jh{B:Nat}{w w':Vz}{b:Nat}{a c d e f g i j l:Nat}{m n o p q r s t u:Option Value}(h:Below B w w')(k:b<B)(v:w.cell? ⟨b,a,none⟩=m)(x:w.cell? ⟨b,c,none⟩=n)(y:w.cell? ⟨b,d,none⟩=o)(z:w.cell? ⟨b,e,none⟩=p)(A:w.cell? ⟨b,f,none⟩=q)(C:w.cell? ⟨b,g,none⟩=r)(D:w.cell? ⟨b,i,none⟩=s)(E:w.cell? ⟨b,j,none⟩=t)(F:w.cell? ⟨b,l,none⟩=u):w'.cell? ⟨b,a,none⟩=m∧w'.cell? ⟨b,c,none⟩=n∧w'.cell? ⟨b,d,none⟩=o∧w'.cell? ⟨b,e,none⟩=p∧w'.cell? ⟨b,f,none⟩=q∧w'.cell? ⟨b,g,none⟩=r∧w'.cell? ⟨b,i,none⟩=s∧w'.cell? ⟨b,j,none⟩=t∧w'.cell? ⟨b,l,none⟩=u:=⟨ce h k v,ce h k x,ce h k y,ce h k z,ce h k A,ce h k C,ce h k D,ce h k E,ce h k F⟩
theorem gE{α:Type}{l:List α}{i:Nat}(h:i<l.length):l[i]?=some l[i]:=List.getElem?_eq_getElem h
theorem mO{α:Type}{l:List α}{i:Nat}{a:α}(h:l[i]?=some a):a∈l:=List.mem_of_getElem? h
theorem gZ{α:Type}{l:List α}{i:Nat}{a:α}(h:l[i]?=some a):∃k:i<l.length,l[i]=a:=List.getElem?_eq_some_iff.1 h
theorem bC{p:Prop}(h:¬p→False):p:=Classical.byContradiction h
theorem lZ{n:Nat}:n≤n:=Nat.le_refl _
theorem bR{B:Nat}{w:Vz}:Below B w w:=Below.refl _ _
theorem cM{P:Program}{f:FuncId}{a:Vw}{w:Vz}{Q R:Ending→World→Prop}(h:Calls P f a w Q)(k:∀e w',Q e w'→R e w'):Calls P f a w R:=h.mono k
structure Row (k:IntKind) (w:Vz) (a:Vx) (cap:Nat) (l:Vy):Prop where
 fit:l.length<=cap
 shape:(a=none/\cap=0)∨∃b off,a=some ⟨b,off,none⟩/\b<w.heap.size
 cell:∀i,i<l.length->∃b off,a=some ⟨b,off,none⟩/\b<w.heap.size/\w.cell? ⟨b,off+i,none⟩=some (.int k ((l.getD i 0:Nat):Int))
theorem Row.nil(k:IntKind)(w:Vz):Row k w none 0 []:=⟨by simp,.inl ⟨rfl,rfl⟩,fun i a=>by simp at a⟩
theorem Row.below{k:IntKind}{w w':Vz}{a:Vx}{cap:Nat}{l:Vy}(h:Row k w a cap l)(d:Below w.heap.size w w'):Row k w' a cap l:=by
 refine⟨h.fit,?_,fun i g=>?_⟩
 .
  rcases h.shape with e|⟨b,c,rfl,f⟩
  . exact .inl e
  . exact .inr ⟨b,c,rfl,by have:=d.size;omega⟩
 . obtain⟨b,c,e,f,j⟩:=h.cell i g
   exact⟨b,c,e,by have:=d.size;omega,ce d f j⟩
theorem Row.take{k:IntKind}{w:Vz}{a:Vx}{cap:Nat}{l:Vy}(h:Row k w a cap l)(n:Nat)(j:n<=l.length):Row k w a cap (l.take n):=by
 refine⟨by rw[List.length_take];have:=h.fit;omega,h.shape,fun i d=>?_⟩;rw[List.length_take] at d;obtain⟨b,c,e,f,g⟩:=h.cell i (by omega);refine⟨b,c,e,f,?_⟩;rw[g,List.getD_eq_getElem?_getD,List.getD_eq_getElem?_getD,List.getElem?_take_of_lt (by omega)]
def wordCells(k:IntKind)(l:Vy):Array Value:=(l.map (fun n:Nat=>Value.int k n)).toArray
def Blk(k:IntKind)(t:Vr)(w:Vz)(g:Nat)(l:Vy):Prop:=w.heap[g]?=some (.cells (wordCells k l) t (0,0))
theorem Blk.lt{k:IntKind}{t:Vr}{w:Vz}{g:Nat}{l:Vy}(h:Blk k t w g l):g<w.heap.size:=by
 apply bC;intro a;unfold Blk at h;rw[Array.getElem?_eq_none (by omega)] at h;cases h
theorem Blk.cell{k:IntKind}{t:Vr}{w:Vz}{g:Nat}{l:Vy}(h:Blk k t w g l)(i:Nat)(a:i<l.length):w.cell? ⟨g,i,none⟩=some (.int k ((l.getD i 0:Nat):Int)):=by
 unfold Blk at h;simp[World.cell?,h,wordCells,a]
theorem Blk.free{k:IntKind}{t:Vr}{w:Vz}{g:Nat}{l:Vy}(h:Blk k t w g l)(i:Nat):w.frozen? ⟨g,i,none⟩=false:=by
 unfold Blk at h;simp[World.frozen?,h]
theorem Qp2(k:IntKind)(l:Vy)(i x:Nat):(wordCells k l).setIfInBounds i (.int k (x:Int))=wordCells k (l.set i x):=by
 unfold wordCells;apply Array.ext';simp[List.map_set]
theorem Blk.set{k:IntKind}{t:Vr}{w:Vz}{g:Nat}{l:Vy}(h:Blk k t w g l)(i x:Nat):Blk k t (w.setCell ⟨g,i,none⟩ (.int k (x:Int))) g (l.set i x):=by
 unfold Blk at h ⊢;simp[World.setCell,Array.getElem?_modify,h,<-Qp2]
theorem Blk.other{k:IntKind}{t:Vr}{w:Vz}{g a:Nat}{l:Vy}(h:Blk k t w g l)(b:g≠a)(i:Nat)(v:Value):Blk k t (w.setCell ⟨a,i,none⟩ v) g l:=by
 unfold Blk at h ⊢;rw[Below.heap_setCell _ _ _ _ b];exact h
theorem Blk.drew{k:IntKind}{t:Vr}{w:Vz}{g:Nat}{l:Vy}(h:Blk k t w g l):Blk k t w.drew g l:=h
theorem Blk.alloc{k:IntKind}{t:Vr}{w:Vz}{g:Nat}{l:Vy}(h:Blk k t w g l)(o:Obj):Blk k t (w.alloc o) g l:=by
 have:=h.lt;unfold Blk at h ⊢;rw[Below.heap_alloc _ _ _ this];exact h
theorem Blk.below{k:IntKind}{t:Vr}{w w':Vz}{g B:Nat}{l:Vy}(h:Blk k t w g l)(a:Below B w w')(b:g<B):Blk k t w' g l:=by
 unfold Blk at h ⊢;rw[a.block g b];exact h
theorem Blk.new(k:IntKind)(t:Vr)(w:Vz)(l:Vy):Blk k t (w.alloc (.cells (wordCells k l) t)) w.heap.size l:=by
 show (w.heap.push _)[w.heap.size]?=_
 simp
theorem Blk.row{k:IntKind}{t:Vr}{w:Vz}{g:Nat}{l:Vy}(h:Blk k t w g l)(n:Nat)(b:n<=l.length)(cap:Nat)(c:n<=cap):Row k w (some ⟨g,0,none⟩) cap (l.take n):=by
 have hl:=h.lt;refine⟨by rw[List.length_take];omega,.inr ⟨g,0,rfl,hl⟩,fun i a=>⟨g,0,rfl,hl,?_⟩⟩;rw[List.length_take] at a;have:=h.cell i (by omega);rw[Nat.zero_add,this,List.getD_eq_getElem?_getD,List.getD_eq_getElem?_getD,List.getElem?_take_of_lt (by omega)]
theorem Qao(n:Int):IntKind.u64.wrap n=n % 18446744073709551616:=by
 simp[IntKind.wrap,IntKind.signed,IntKind.bits]
def zeros(n:Nat):List Nat:=List.replicate n 0
theorem Qaf(n:Nat):(zeros n).length=n:=by unfold zeros;simp
theorem Qak(B n:Nat)(hB:0<B):Small B (zeros n):=Small.replicate B n hB
theorem Qb4(n j:Nat):(zeros n).getD j 0=0:=by
 unfold zeros;rw[List.getD_eq_getElem?_getD,List.getElem?_replicate]
 split<;>rfl
theorem Qd5(B n:Nat):val B (zeros n)=0:=Qnw B n
theorem Qd6(k:IntKind)(n:Nat):madeCells #[Value.int k 0] n=wordCells k (zeros n):=by
 unfold madeCells wordCells zeros;apply Array.ext
 . simp
 . intro i a b
   simp[Nat.mod_one]
theorem Tryz.info32:(prog.info? 201).map (fun i=>(i.zero,i.size,i.bytes))=some (some (.int .u32 0),1,4):=by kernel_rfl
theorem Tryz.info64:(prog.info? 170).map (fun i=>(i.zero,i.size,i.bytes))=some (some (.int .u64 0),1,8):=by kernel_rfl
theorem Qa7(L:Int)(n:Nat)(a:L=n)(b:n<=2199023255552)(w:Vz):
 (Instr.makeSlice 120 (.int .i64 L) (.int .i64 L)).run prog w=.ok (.slice (some ⟨w.heap.size,0,none⟩) n n) (w.alloc (.cells (wordCells .u32 (zeros n)) 201)):=by
 subst a;rw[<-Qd6];exact Go.run_make_row' 120 201 (.int .u32 0) 4 underlying120 Tryz.info32 rfl .i64 .i64 n (by omega) (by omega) w
structure U32 (w:Vz) (a:Vx) (cap:Nat) (l:Vy) (n:Nat):Prop where
 row:Row .u32 w a cap l
 num:Num 4294967296 l n
 short:l.length<=1099511627776
theorem U32.below{w w':Vz}{a:Vx}{cap:Nat}{l:Vy}{n:Nat}(h:U32 w a cap l n)(b:Below w.heap.size w w'):U32 w' a cap l n:=⟨h.row.below b,h.num,h.short⟩
theorem Qbg(H I:Vx)(c1 c2:Nat)(l m:Vy)(x y:Nat)(w:Vz)(a:U32 w H c1 l x)(c:U32 w I c2 m y):
 Calls prog 120 #[.slice H l.length c1,.slice I m.length c2] w fun e w'=>e=.returned (.int .i64 (cmp3 x y))/\Below w.heap.size w w':=by
 have S:=a.short;have T:=c.short;by_cases f:l.length<m.length
 .
  have t:((l.length:Int) != (m.length:Int))=true:=by rw[bne_iff_ne];omega
  have u:cmp3 x y= -1:=Qcw (by rw[<-a.num.eq,<-c.num.eq];exact Qax (by omega) a.num.small c.num.trim f);have A:O (cmp3 x y= -1):=u;clear u;go_enter func120,ntmps120;go_wp2;go_ret;exact⟨by rw[A.o];rfl,Below.refl _ _⟩
 by_cases v:m.length<l.length
 .
  have t:((l.length:Int) != (m.length:Int))=true:=by rw[bne_iff_ne];omega
  have u:cmp3 x y=1:=Qdp (by rw[<-a.num.eq,<-c.num.eq];exact Qax (by omega) c.num.small a.num.trim v);have A:O (cmp3 x y=1):=u;clear u;go_enter func120,ntmps120;go_wp2;go_ret;exact⟨by rw[A.o];rfl,Below.refl _ _⟩
 have n:m.length=l.length:=by omega
 have J:O (m.length=l.length):=n;rw[n];have t:((l.length:Int) != (l.length:Int))=false:=by simp
 clear f v n;go_enter func120,ntmps120;go_wp2;go_loopw [5] (fun i wr=>∃k:Nat,k<=l.length/\i=.int .i64 ((k:Int) - 1)/\l.drop k=m.drop k/\Below w.heap.size w wr) (fun i _=>(intOf i+1).toNat)
 case atStart=>exact⟨l.length,Nat.le_refl _,rfl,by rw[List.drop_of_length_le lZ,List.drop_of_length_le (by rw[J.o];exact Nat.le_refl _)],Below.refl _ _⟩
 case round=>
  obtain⟨k,hk,rfl,r,s⟩:=hrel;have z:O (l.drop k=m.drop k):=r;clear r;by_cases N:k=0
  .
   subst N;go_wp2;go_ret;exact⟨by rw[Qh6 (by rw[<-a.num.eq,<-c.num.eq];have:=z.o;simp at this;rw[this])];rfl,s⟩
  .
   obtain⟨j,rfl⟩:∃j,k=j+1:=⟨k - 1,by omega⟩;have g:j<l.length:=by omega
   have h:j<m.length:=by have:=J.o;omega
   obtain⟨b,P,rfl,B,p⟩:=a.row.cell j g;obtain⟨U,K,rfl,C,q⟩:=c.row.cell j h;obtain⟨d,r⟩:=nm (l.getD j 0);obtain⟨e,D⟩:=nm (m.getD j 0);rw[r] at p;rw[D] at q;have L:=ce s B p;have M:=ce s C q;have E:O (l.getD j 0=d):=r;have F:O (m.getD j 0=e):=D;clear r D p q;have Q:((j+1:Nat):Int) - 1=(j:Int):=by omega
   rw[Q];by_cases G:d=e
   .
    subst G;have R:((d:Int) != (d:Int))=false:=by simp
    go_wp2;go_region
    all_goals
     go_wp2;go_roundw
     case rel=>exact⟨j,by omega,by go_num,Qh7 g h z.o (E.o.trans F.o.symm),s.drew⟩
     case measure=>simp[intOf]
   .
    have R:((d:Int) != (e:Int))=true:=by rw[bne_iff_ne];omega
    by_cases f:d<e
    .
     go_wp2;go_region
     all_goals
      go_wp2;go_region
     all_goals
      go_wp2;go_ret;exact⟨by rw[Qcw (by rw[<-a.num.eq,<-c.num.eq];exact Qdq (by omega) a.num.small j g h z.o (by rw[E.o,F.o];exact f))];rfl,s.drew.drew⟩
    .
     go_wp2;go_region
     all_goals
      go_wp2;go_region
     all_goals
      go_wp2;go_ret;exact⟨by rw[Qdp (by rw[<-a.num.eq,<-c.num.eq];exact Qdq (by omega) c.num.small j h g z.o.symm (by rw[E.o,F.o];omega))];rfl,s.drew.drew⟩
theorem Qm3(l:Vy)(k:Nat)(hk:k<=l.length)(h:k=0∨l.getD (k - 1) 0≠0):Trim (l.take k):=by
 rcases h with rfl|h
 . left;simp
 .
  by_cases a:k=0
  . left;subst a;simp
  .
   right;rw[List.length_take,Nat.min_eq_left hk,List.getD_eq_getElem?_getD,List.getElem?_take_of_lt (by omega),<-List.getD_eq_getElem?_getD];exact h
theorem Qm4(B:Nat)(l:Vy)(k:Nat)(hk:k<l.length)(h:l.getD k 0=0):val B (l.take (k+1))=val B (l.take k):=by
 rw[Qbz B l k hk,h];simp
theorem Qhm(a:Vx)(cap:Nat)(l:Vy)(w:Vz)(h:Row .u32 w a cap l)(hl:l.length<=1099511627776):
 Calls prog 154 #[.slice a l.length cap] w fun e w'=>(∃k,k<=l.length/\e=.returned (.slice a k cap)/\val 4294967296 (l.take k)=val 4294967296 l/\Trim (l.take k))/\w'=w:=by
 have i:=h.fit;go_enter func154,ntmps154;go_wp2;go_loop [3] (fun n=>∃k:Nat,k<=l.length/\n=.int .i64 k/\val 4294967296 (l.take k)=val 4294967296 l) (fun n=>(intOf n).toNat)
 case atStart=>exact⟨l.length,Nat.le_refl _,rfl,by rw[List.take_length]⟩
 case round=>
  obtain⟨k,hk,rfl,m⟩:=hrel;have c:O (val 4294967296 (l.take k)=val 4294967296 l):=m;clear m;by_cases s:k=0
  .
   subst s;rcases h.shape with ⟨rfl,rfl⟩|⟨b,f,rfl,t⟩
   all_goals
    go_wp2;go_ret;exact⟨⟨0,by omega,by simp,c.o,.inl (by simp)⟩,rfl⟩
  .
   obtain⟨b,f,rfl,t,p⟩:=h.cell (k - 1) (by omega);obtain⟨j,rfl⟩:∃j,k=j+1:=⟨k - 1,by omega⟩;simp only[Nat.add_sub_cancel] at p;obtain⟨d,g⟩:=nm (l.getD j 0);rw[g] at p;have q:O (l.getD j 0=d):=g;clear g;by_cases r:d=0
   .
    subst r;go_wp2;go_round
    case rel=>exact⟨j,by omega,by go_num,(Qm4 _ l j (by omega) q.o).symm.trans c.o⟩
    case measure=>simp[intOf]
   .
    have u:((d:Int) == 0)=false:=by simp;omega
    go_wp2;go_ret;exact⟨⟨j+1,hk,by simp,c.o,Qm3 l (j+1) hk (.inr (by rw[Nat.add_sub_cancel,q.o];exact r))⟩,rfl⟩
theorem Qa4(g n cap x:Nat)(rs:Vy)(w:Vz)(h:Blk .u32 201 w g rs)(hl:rs.length=n)(j:Small 4294967296 rs)(k:n<=cap)(m:n<=1099511627776)(l:val 4294967296 rs=x):
 Calls prog 154 #[.slice (some ⟨g,0,none⟩) n cap] w fun e w'=>(∃a cap r,e=.returned (.slice a r.length cap)/\U32 w a cap r x)/\w'=w:=by
 have c:=h.row n (by omega) cap k;rw[List.take_of_length_le (by omega)] at c;have i:=Qhm (some ⟨g,0,none⟩) cap rs w c (by omega);rw[hl] at i;refine i.mono ?_;rintro e w1 ⟨⟨q,o,rfl,d,f⟩,rfl⟩;have b:(rs.take q).length=q:=by rw[List.length_take];omega
 exact⟨⟨_,cap,rs.take q,by rw[b],c.take q (by omega),⟨j.take q,f,d.trans l⟩,by rw[b];omega⟩,rfl⟩
end Go.Proofs.YtppkmifkpjkgpaaGreatDoor
