import Derived.Test.YtppkmifkpjkgpaaGreatDoorChecked
import Derived.WalkKit
import Derived.Below
import Derived.OwnWalk
import Derived.Outline
import Derived.Deep.OwnRows
import Derived.RegionTactic
import Derived.ChangeAlike
import Derived.Laws.AppendOwnNone
import Derived.Laws.BitsAllLaws
namespace Go.Proofs.YtppkmifkpjkgpaaGreatDoor
set_option linter.unusedSimpArgs false
set_option linter.unusedVariables false
set_option maxHeartbeats 8000000
set_option maxRecDepth 1000000
def val(B:Nat):List Nat→Nat
 | []=>0
 |d :: l=>d+B*val B l
theorem Qcy(B:Nat):val B []=0:=rfl
theorem Qbt(B d:Nat)(l:List Nat):val B (d :: l)=d+B*val B l:=rfl
theorem Qcz(B:Nat)(l m:List Nat):val B (l++m)=val B l+B ^ l.length*val B m:=by
 induction l with
 |nil=>simp[val]
 |cons d l a=>
  simp only[List.cons_append,val,a,List.length_cons,Nat.pow_succ,Nat.mul_add,Nat.add_assoc];rw[Nat.mul_comm (B ^ l.length) B,Nat.mul_assoc]
theorem Qak(B:Nat)(l:List Nat)(d:Nat):val B (l++ [d])=val B l+B ^ l.length*d:=by
 rw[Qcz];simp[val]
def Small(B:Nat)(l:List Nat):Prop:=∀d,d∈ l→d<B
theorem Small.nil(B:Nat):Small B []:=fun d h=>by cases h
theorem Small.append{B:Nat}{l m:List Nat}(h:Small B l)(k:Small B m):Small B (l++m):=fun d b=>by
 rcases List.mem_append.1 b with a|a
 · exact h d a
 · exact k d a
theorem Small.take{B:Nat}{l:List Nat}(h:Small B l)(n:Nat):Small B (l.take n):=fun d a=>h d (List.mem_of_mem_take a)
theorem Small.drop{B:Nat}{l:List Nat}(h:Small B l)(n:Nat):Small B (l.drop n):=fun d a=>h d (List.mem_of_mem_drop a)
theorem Small.set{B:Nat}{l:List Nat}(h:Small B l)(i:Nat){d:Nat}(k:d<B):Small B (l.set i d):=fun e b=>by
 rcases List.mem_or_eq_of_mem_set b with a|a
 · exact h e a
 · subst a;exact k
theorem Small.getD{B:Nat}{l:List Nat}(h:Small B l)(hB:0<B)(i:Nat):l.getD i 0<B:=by
 by_cases a:i<l.length
 · rw[List.getD_eq_getElem?_getD,List.getElem?_eq_getElem a]
   exact h _ (List.getElem_mem a)
 · rw[List.getD_eq_getElem?_getD,List.getElem?_eq_none (by omega)]
   exact hB
theorem Small.replicate(B n:Nat)(hB:0<B):Small B (List.replicate n 0):=fun d a=>by
 have:=List.eq_of_mem_replicate a;omega
theorem Qaa{B:Nat}{l:List Nat}(hB:0<B)(h:Small B l):val B l<B ^ l.length:=by
 induction l with
 |nil=>simp[val]
 |cons d l a=>
  have b:=a (fun e c=>h e (List.mem_cons_of_mem _ c));have g:=h d (List.mem_cons_self ..);simp only[val,List.length_cons,Nat.pow_succ];rw[Nat.mul_comm (B ^ l.length) B];have f:B*(val B l+1)≤B*B ^ l.length:=Nat.mul_le_mul_left B b;rw[Nat.mul_add] at f;omega
theorem Qom(B n:Nat):val B (List.replicate n 0)=0:=by
 induction n with
 |zero=>rfl
 |succ n a=>simp[List.replicate_succ,val,a]
theorem Qbu(B:Nat)(l:List Nat)(k:Nat)(h:k<l.length):val B (l.take (k+1))=val B (l.take k)+B ^ k*l.getD k 0:=by
 rw[List.take_succ_eq_append_getElem h,Qak,List.length_take,Nat.min_eq_left (by omega),List.getD_eq_getElem?_getD,List.getElem?_eq_getElem h];rfl
theorem Qa7(B:Nat)(l:List Nat)(k:Nat)(h:l.length≤k):val B (l.take k)=val B l:=by
 rw[List.take_of_length_le h]
theorem Qac(B:Nat)(l:List Nat)(k:Nat):val B (l.take (k+1))=val B (l.take k)+B ^ k*l.getD k 0:=by
 by_cases h:k<l.length
 · exact Qbu B l k h
 · rw[Qa7 _ _ _ (by omega),Qa7 _ _ _ (by omega),List.getD_eq_getElem?_getD,List.getElem?_eq_none (by omega)]
   simp
theorem Qah(B:Nat)(l:List Nat)(k:Nat)(h:k≤l.length):val B l=val B (l.take k)+B ^ k*val B (l.drop k):=by
 conv=>lhs;rw[←List.take_append_drop k l]
 rw[Qcz,List.length_take,Nat.min_eq_left h]
theorem Qc0(l:List Nat)(k:Nat)(h:k<l.length):l.drop k=l.getD k 0 :: l.drop (k+1):=by
 rw[List.drop_eq_getElem_cons h,List.getD_eq_getElem?_getD,List.getElem?_eq_getElem h];rfl
theorem Qam(B:Nat)(l:List Nat)(k:Nat)(h:k<l.length):val B (l.drop k)=l.getD k 0+B*val B (l.drop (k+1)):=by
 rw[Qc0 l k h,Qbt]
theorem take_set(l:List Nat)(k d:Nat)(h:k<l.length):(l.set k d).take (k+1)=l.take k++ [d]:=by
 rw[List.take_succ_eq_append_getElem (by simpa using h),List.take_set_of_le (Nat.le_refl _)];simp
def Trim(l:List Nat):Prop:=l= []∨l.getD (l.length - 1) 0≠0
theorem Trim.pow_le{B:Nat}{l:List Nat}(h:Trim l)(hl:0<l.length):B ^ (l.length - 1)≤val B l:=by
 rcases h with rfl|h
 · simp at hl
 ·
  have e:=Qah B l (l.length - 1) (by omega);have a:=Qam B l (l.length - 1) (by omega);rw[e,a];have b:1≤l.getD (l.length - 1) 0+B*val B (l.drop (l.length - 1+1)):=by omega
  have:=Nat.mul_le_mul_left (B ^ (l.length - 1)) b;omega
theorem Qon{B:Nat}{l:List Nat}(hB:0<B)(h:Trim l):val B l=0↔l= []:=by
 constructor
 ·
  intro e;by_cases hl:0<l.length
  ·
   have a:=h.pow_le (B:=B) hl;have b:0<B ^ (l.length - 1):=Nat.pow_pos hB;omega
  · exact List.eq_nil_of_length_eq_zero (by omega)
 · rintro rfl;rfl
theorem Qca{B:Nat}(hB:0<B){m n:Nat}(h:m≤n):B ^ m≤B ^ n:=Nat.pow_le_pow_right hB h
theorem Qav{B:Nat}{l m:List Nat}(hB:0<B)(hl:Small B l)(a:Trim m)(h:l.length<m.length):val B l<val B m:=by
 have b:=Qaa hB hl;have c:=a.pow_le (B:=B) (by omega);have d:=Qca hB (show l.length≤m.length - 1 by omega);omega
theorem Qh8{B:Nat}{d:Nat}{x:Nat}(h:d<B):(d+B*x) % B=d:=by
 rw[Nat.add_mul_mod_self_left,Nat.mod_eq_of_lt h]
theorem Qh9{B:Nat}{d:Nat}{x:Nat}(h:d<B):(d+B*x) / B=x:=by
 rw[Nat.add_mul_div_left _ _ (by omega),Nat.div_eq_of_lt h,Nat.zero_add]
theorem Qia{B:Nat}:∀{l m:List Nat},Small B l→Small B m→l.length=m.length→val B l=val B m→l=m
 | [],[],_,_,_,_=>rfl
 | [],_ :: _,_,_,h,_=>by simp at h
 |_ :: _,[],_,_,h,_=>by simp at h
 |d :: l,e :: m,h1,h2,h3,h4=>by
  have b:=h1 d (List.mem_cons_self ..);have c:=h2 e (List.mem_cons_self ..);simp only[val] at h4;have f:d=e:=by rw[←Qh8 (x:=val B l) b,←Qh8 (x:=val B m) c,h4]
  have g:val B l=val B m:=by rw[←Qh9 (x:=val B l) b,←Qh9 (x:=val B m) c,h4]
  rw[f,Qia (fun x a=>h1 x (List.mem_cons_of_mem _ a)) (fun x a=>h2 x (List.mem_cons_of_mem _ a)) (by simpa using h3) g]
structure Num (B:Nat) (l:List Nat) (n:Nat):Prop where
 small:Small B l
 trim:Trim l
 eq:val B l=n
theorem Num.inj{B:Nat}{l m:List Nat}{n:Nat}(hB:0<B)(h:Num B l n)(k:Num B m n):l=m:=by
 have e:l.length=m.length:=by
  rcases Nat.lt_trichotomy l.length m.length with a|a|a
  · have:=Qav hB h.small k.trim a;have:=h.eq;have:=k.eq;omega
  · exact a
  · have:=Qav hB k.small h.trim a;have:=h.eq;have:=k.eq;omega
 exact Qia h.small k.small e (h.eq.trans k.eq.symm)
theorem Num.zero(B:Nat):Num B [] 0:=⟨Small.nil B,.inl rfl,rfl⟩
theorem Num.nil_iff{B:Nat}{l:List Nat}{n:Nat}(hB:0<B)(h:Num B l n):n=0↔l= []:=by
 rw[←h.eq];exact Qon hB h.trim
theorem Num.len_zero{B:Nat}{l:List Nat}{n:Nat}(hB:0<B)(h:Num B l n):n=0↔l.length=0:=by
 rw[h.nil_iff hB];exact List.length_eq_zero_iff.symm
theorem Num.length_le_of_lt{B:Nat}{l:List Nat}{n k:Nat}(hB:0<B)(h:Num B l n)(b:n<B ^ k):l.length≤k:=by
 apply Classical.byContradiction;intro c;have a:=h.trim.pow_le (B:=B) (by omega);have d:=Qca hB (show k≤l.length - 1 by omega);rw[h.eq] at a;omega
def nb(n:Nat):Nat:=if n=0 then 0 else n.log2+1
theorem Qfg(n:Nat):n<2 ^ nb n:=by
 unfold nb
 split
 · omega
 · exact Nat.lt_log2_self
theorem nb_le{n k:Nat}(h:n<2 ^ k):nb n≤k:=by
 unfold nb
 split
 · omega
 · rename_i a
   exact(Nat.log2_lt a).2 h
theorem Qoo:nb 0=0:=rfl
theorem Qdy{n:Nat}(h:0<n):1≤nb n:=by unfold nb;rw[if_neg (by omega)];omega
theorem Qib{n k:Nat}(h:k<nb n):2 ^ k≤n:=by
 apply Classical.byContradiction;intro a;have:=nb_le (n:=n) (k:=k) (by omega);omega
theorem Num.nb_le{q:Nat}{l:List Nat}{n:Nat}(h:Num (2 ^ q) l n):nb n≤q*l.length:=by
 apply Go.Proofs.YtppkmifkpjkgpaaGreatDoor.nb_le;have:=Qaa (Nat.pow_pos (by omega)) h.small;rw[h.eq,←Nat.pow_mul] at this;exact this
def cmp3(x y:Nat):Int:=if x<y then -1 else if x=y then 0 else 1
theorem Qc1{x y:Nat}(h:x<y):cmp3 x y= -1:=by unfold cmp3;rw[if_pos h]
theorem Qic{x y:Nat}(h:x=y):cmp3 x y=0:=by unfold cmp3;rw[if_neg (by omega),if_pos h]
theorem Qdz{x y:Nat}(h:y<x):cmp3 x y=1:=by unfold cmp3;rw[if_neg (by omega),if_neg (by omega)]
theorem Qaw(x y:Nat):cmp3 x y<0↔x<y:=by
 unfold cmp3
 split
 · simp;assumption
 · split<;>simp<;>omega
theorem Qop(x y:Nat): -1≤cmp3 x y∧cmp3 x y≤1:=by
 unfold cmp3
 split
 · omega
 · split<;>omega
theorem Qd0{B:Nat}(hB:0<B){l m:List Nat}(hl:Small B l)(j:Nat)(a:j<l.length)(b:j<m.length)(c:l.drop (j+1)=m.drop (j+1))(h:l.getD j 0<m.getD j 0):val B l<val B m:=by
 rw[Qah B l j (by omega),Qah B m j (by omega),Qam B l j a,Qam B m j b,c];have d:=Qaa hB (hl.take j);rw[List.length_take,Nat.min_eq_left (by omega)] at d;have e:B ^ j*(l.getD j 0+B*val B (m.drop (j+1))+1)≤B ^ j*(m.getD j 0+B*val B (m.drop (j+1))):=Nat.mul_le_mul_left _ (by omega);rw[Nat.mul_add _ _ 1] at e;omega
theorem Qid{l m:List Nat}{j:Nat}(a:j<l.length)(b:j<m.length)(c:l.drop (j+1)=m.drop (j+1))(h:l.getD j 0=m.getD j 0):l.drop j=m.drop j:=by
 rw[Qc0 l j a,Qc0 m j b,c,h]
theorem Qoq(B k c t R:Nat)(rs:List Nat)(hk:k<rs.length)(h:val B (rs.take k)+B ^ k*c=R):
 val B ((rs.set k ((c+t) % B)).take (k+1))+B ^ (k+1)*((c+t) / B)=R+B ^ k*t:=by
 rw[take_set _ _ _ hk,Qak,List.length_take,Nat.min_eq_left (by omega),Nat.pow_succ];have e:=Nat.mod_add_div (c+t) B;have a:B ^ k*((c+t) % B+B*((c+t) / B))=B ^ k*(c+t):=by rw[e]
 rw[Nat.mul_add,Nat.mul_add,←Nat.mul_assoc] at a;omega
theorem Qbv(l:List Nat)(k:Nat)(h:l.length≤k):l.getD k 0=0:=by
 rw[List.getD_eq_getElem?_getD,List.getElem?_eq_none h];rfl
theorem Qfh(B:Nat)(rs:List Nat)(n c:Nat)(h:rs.length=n+1):val B (rs.set n c)=val B (rs.take n)+B ^ n*c:=by
 rw[←Qa7 B (rs.set n c) (n+1) (by simp;omega),take_set _ _ _ (by omega),Qak,List.length_take,Nat.min_eq_left (by omega)]
theorem Qd1(k c d e:Nat)(rs l m:List Nat)(hk:k<rs.length)(a:l.getD k 0=d)(b:m.getD k 0=e)
 (h:val 4294967296 (rs.take k)+4294967296 ^ k*c=val 4294967296 (l.take k)+val 4294967296 (m.take k)):
 val 4294967296 ((rs.set k ((c+(d+e)) % 4294967296)).take (k+1))+4294967296 ^ (k+1)*((c+(d+e)) / 4294967296)=val 4294967296 (l.take (k+1))+val 4294967296 (m.take (k+1)):=by
 rw[Qoq _ _ _ _ _ _ hk h,Qac,Qac,a,b,Nat.mul_add];omega
theorem Qfi(B k c d e r a:Nat)(rs l m:List Nat)(hk:k<rs.length)(b:l.getD k 0=d)(f:m.getD k 0=e)(g:r+c+e=d+B*a)
 (h:val B (rs.take k)+val B (m.take k)=val B (l.take k)+B ^ k*c):
 val B ((rs.set k r).take (k+1))+val B (m.take (k+1))=val B (l.take (k+1))+B ^ (k+1)*a:=by
 rw[take_set _ _ _ hk,Qak,List.length_take,Nat.min_eq_left (by omega),Qac,Qac,b,f,Nat.pow_succ];have i:B ^ k*(r+c+e)=B ^ k*(d+B*a):=by rw[g]
 rw[Nat.mul_add,Nat.mul_add,Nat.mul_add,←Nat.mul_assoc] at i;omega
theorem Qie(d c e:Nat)(b:d<4294967296)(f:e<4294967296)(g:c≤1):∃r a:Nat,r<4294967296∧a≤1∧r+c+e=d+4294967296*a∧
 ((((d:Int) - c) % 18446744073709551616 - e) % 18446744073709551616) % 4294967296=(r:Int)∧((((d:Int) - c) % 18446744073709551616 - e) % 18446744073709551616) / 9223372036854775808=(a:Int):=by
 by_cases h:d<c+e
 · exact⟨d+4294967296 - c - e,1,by omega,by omega,by omega,by omega,by omega⟩
 · exact⟨d - c - e,0,by omega,by omega,by omega,by omega,by omega⟩
theorem Qbf(B:Nat)(l:List Nat)(k d:Nat)(h:k<l.length):val B (l.set k d)+B ^ k*l.getD k 0=val B l+B ^ k*d:=by
 have a:=Qah B (l.set k d) (k+1) (by simp;omega);have b:=Qah B l (k+1) (by omega);rw[take_set _ _ _ h,Qak,List.length_take,Nat.min_eq_left (by omega),List.drop_set_of_lt (by omega)] at a;rw[Qbu B l k h] at b;omega
theorem Qif(l:List Nat)(k d q:Nat):(l.set k d).take q=(l.take q).set k d:=by
 rw[List.take_set]
theorem Qfj(l:List Nat)(q k:Nat)(h:k<q):(l.take q).getD k 0=l.getD k 0:=by
 rw[List.getD_eq_getElem?_getD,List.getD_eq_getElem?_getD,List.getElem?_take_of_lt h]
theorem Qig(B p q c t d R:Nat)(rs:List Nat)(i:q≤rs.length)(a:p<q)(b:rs.getD p 0=d)(h:val B (rs.take q)+B ^ p*c=R):
 val B ((rs.set p ((c+(t+d)) % B)).take q)+B ^ (p+1)*((c+(t+d)) / B)=R+B ^ p*t:=by
 rw[Qif];have f:=Qbf B (rs.take q) p ((c+(t+d)) % B) (by rw[List.length_take];omega);rw[Qfj _ _ _ a,b] at f;have e:=Nat.mod_add_div (c+(t+d)) B;have g:B ^ p*((c+(t+d)) % B+B*((c+(t+d)) / B))=B ^ p*(c+(t+d)):=by rw[e]
 rw[Nat.mul_add,Nat.mul_add,Nat.mul_add,←Nat.mul_assoc] at g;rw[Nat.pow_succ];omega
theorem Qd2{B d e:Nat}(a:d<B)(b:e<B):d*e≤(B - 1)*(B - 1):=Nat.mul_le_mul (by omega) (by omega)
theorem Qor(B k i d e t q c z V:Nat)(rs m:List Nat)(a:t=d*e)(b:m.getD i 0=e)(f:q≤rs.length)(g:k+i<q)(j:rs.getD (k+i) 0=z)
 (h:val B (rs.take q)+B ^ (k+i)*c=V+B ^ k*(d*val B (m.take i))):
 val B ((rs.set (k+i) ((c+(t+z)) % B)).take q)+B ^ (k+(i+1))*((c+(t+z)) / B)=V+B ^ k*(d*val B (m.take (i+1))):=by
 rw[show k+(i+1)=k+i+1 from by omega,Qig B (k+i) q c t z _ rs f g j h,Qac,b,a,Nat.pow_add,Nat.mul_add,Nat.mul_add];rw[Nat.mul_left_comm d (B ^ i) e,←Nat.mul_assoc (B ^ k) (B ^ i) (d*e)];omega
theorem Qos(B k d c y n:Nat)(rs l:List Nat)(a:l.getD k 0=d)(b:k+n<rs.length)
 (h:val B (rs.take (k+n))+B ^ (k+n)*c=val B (l.take k)*y+B ^ k*(d*y)):
 val B ((rs.set (k+n) c).take (k+1+n))=val B (l.take (k+1))*y:=by
 rw[show k+1+n=k+n+1 from by omega,take_set _ _ _ b,Qak,List.length_take,Nat.min_eq_left (by omega),h,Qac,a,Nat.add_mul,Nat.mul_assoc]
theorem Qbg(l:List Nat)(k d:Nat)(h:k<l.length):(l.set k d).getD k 0=d:=by
 rw[List.getD_eq_getElem?_getD,List.getElem?_set_self h];rfl
theorem getD_set_ne(l:List Nat)(k d j:Nat)(h:k≠j):(l.set k d).getD j 0=l.getD j 0:=by
 rw[List.getD_eq_getElem?_getD,List.getD_eq_getElem?_getD,List.getElem?_set_ne h]
open Go.RowKit
open Go.Proofs.Tryz
abbrev Vz:=World
abbrev Vy:=List Nat
abbrev Vx:=Option Addr
abbrev Vw:=Array Value
abbrev Vv:=List Value
abbrev Vu:=List UInt8
abbrev Vt:=List ByteArray
abbrev Vs:=ByteArray
abbrev Vr:=TypeId
theorem sA{α:Type}{l:List α}{i:Nat}{a:α}:l.toArray.setIfInBounds i a=(l.set i a).toArray:=by simp
theorem sB{α:Type}{a b:α}{l:List α}:(a::l).set 0 b=b::l:=rfl
theorem sC{α:Type}{a b:α}{l:List α}{n:Nat}:(a::l).set (n+1) b=a::l.set n b:=rfl
abbrev Bl(w w':Vz):=Below w.heap.size w w'
theorem mH{α:Type}{a:α}{l:List α}:a∈a::l:=.head _
theorem mT{α:Type}{a b:α}{l:List α}(h:a∈l):a∈b::l:=.tail _ h
def O(p:Prop):Prop:=p
theorem O.o{p:Prop}(h:O p):p:=h
theorem Hi{p:Prop}(h:p):O p:=h
theorem ce{B:Nat}{w w':Vz}{b i:Nat}{o:Option Value}(h:Below B w w')(a:b<B)(c:w.cell? ⟨b,i,none⟩=o):w'.cell? ⟨b,i,none⟩=o:=(h.cell (p:=⟨b,i,none⟩) a).trans c
theorem nm{α:Type}(a:α):∃x,a=x:=⟨_,rfl⟩
theorem Ia{a b:Prop}(c:a)(d:b):O a∧O b:=⟨c,d⟩
theorem Ja{B:Nat}{w w':Vz}{b:Nat}{a c:Nat}{d e:Option Value}(h:Below B w w')(k:b<B)(f:w.cell? ⟨b,a,none⟩=d)(g:w.cell? ⟨b,c,none⟩=e):w'.cell? ⟨b,a,none⟩=d∧w'.cell? ⟨b,c,none⟩=e:=⟨ce h k f,ce h k g⟩
theorem Ib{a b c:Prop}(d:a)(e:b)(f:c):O a∧O b∧O c:=⟨d,e,f⟩
theorem Jb{B:Nat}{w w':Vz}{b:Nat}{a c d:Nat}{e f g:Option Value}(h:Below B w w')(k:b<B)(i:w.cell? ⟨b,a,none⟩=e)(j:w.cell? ⟨b,c,none⟩=f)(l:w.cell? ⟨b,d,none⟩=g):w'.cell? ⟨b,a,none⟩=e∧w'.cell? ⟨b,c,none⟩=f∧w'.cell? ⟨b,d,none⟩=g:=⟨ce h k i,ce h k j,ce h k l⟩
theorem Ic{a b c d:Prop}(e:a)(f:b)(g:c)(h:d):O a∧O b∧O c∧O d:=⟨e,f,g,h⟩
theorem Jc{B:Nat}{w w':Vz}{b:Nat}{a c d e:Nat}{f g i j:Option Value}(h:Below B w w')(k:b<B)(l:w.cell? ⟨b,a,none⟩=f)(m:w.cell? ⟨b,c,none⟩=g)(n:w.cell? ⟨b,d,none⟩=i)(o:w.cell? ⟨b,e,none⟩=j):w'.cell? ⟨b,a,none⟩=f∧w'.cell? ⟨b,c,none⟩=g∧w'.cell? ⟨b,d,none⟩=i∧w'.cell? ⟨b,e,none⟩=j:=⟨ce h k l,ce h k m,ce h k n,ce h k o⟩
theorem Id{a b c d e:Prop}(f:a)(g:b)(h:c)(i:d)(j:e):O a∧O b∧O c∧O d∧O e:=⟨f,g,h,i,j⟩
theorem Jd{B:Nat}{w w':Vz}{b:Nat}{a c d e f:Nat}{g i j l m:Option Value}(h:Below B w w')(k:b<B)(n:w.cell? ⟨b,a,none⟩=g)(o:w.cell? ⟨b,c,none⟩=i)(p:w.cell? ⟨b,d,none⟩=j)(q:w.cell? ⟨b,e,none⟩=l)(r:w.cell? ⟨b,f,none⟩=m):w'.cell? ⟨b,a,none⟩=g∧w'.cell? ⟨b,c,none⟩=i∧w'.cell? ⟨b,d,none⟩=j∧w'.cell? ⟨b,e,none⟩=l∧w'.cell? ⟨b,f,none⟩=m:=⟨ce h k n,ce h k o,ce h k p,ce h k q,ce h k r⟩
theorem Ie{a b c d e f:Prop}(g:a)(h:b)(i:c)(j:d)(k:e)(l:f):O a∧O b∧O c∧O d∧O e∧O f:=⟨g,h,i,j,k,l⟩
theorem Je{B:Nat}{w w':Vz}{b:Nat}{a c d e f g:Nat}{i j l m n o:Option Value}(h:Below B w w')(k:b<B)(p:w.cell? ⟨b,a,none⟩=i)(q:w.cell? ⟨b,c,none⟩=j)(r:w.cell? ⟨b,d,none⟩=l)(s:w.cell? ⟨b,e,none⟩=m)(t:w.cell? ⟨b,f,none⟩=n)(u:w.cell? ⟨b,g,none⟩=o):w'.cell? ⟨b,a,none⟩=i∧w'.cell? ⟨b,c,none⟩=j∧w'.cell? ⟨b,d,none⟩=l∧w'.cell? ⟨b,e,none⟩=m∧w'.cell? ⟨b,f,none⟩=n∧w'.cell? ⟨b,g,none⟩=o:=⟨ce h k p,ce h k q,ce h k r,ce h k s,ce h k t,ce h k u⟩
theorem If{a b c d e f g:Prop}(h:a)(i:b)(j:c)(k:d)(l:e)(m:f)(n:g):O a∧O b∧O c∧O d∧O e∧O f∧O g:=⟨h,i,j,k,l,m,n⟩
theorem Jf{B:Nat}{w w':Vz}{b:Nat}{a c d e f g i:Nat}{j l m n o p q:Option Value}(h:Below B w w')(k:b<B)(r:w.cell? ⟨b,a,none⟩=j)(s:w.cell? ⟨b,c,none⟩=l)(t:w.cell? ⟨b,d,none⟩=m)(u:w.cell? ⟨b,e,none⟩=n)(v:w.cell? ⟨b,f,none⟩=o)(x:w.cell? ⟨b,g,none⟩=p)(y:w.cell? ⟨b,i,none⟩=q):w'.cell? ⟨b,a,none⟩=j∧w'.cell? ⟨b,c,none⟩=l∧w'.cell? ⟨b,d,none⟩=m∧w'.cell? ⟨b,e,none⟩=n∧w'.cell? ⟨b,f,none⟩=o∧w'.cell? ⟨b,g,none⟩=p∧w'.cell? ⟨b,i,none⟩=q:=⟨ce h k r,ce h k s,ce h k t,ce h k u,ce h k v,ce h k x,ce h k y⟩
theorem Ig{a b c d e f g h:Prop}(i:a)(j:b)(k:c)(l:d)(m:e)(n:f)(o:g)(p:h):O a∧O b∧O c∧O d∧O e∧O f∧O g∧O h:=⟨i,j,k,l,m,n,o,p⟩
theorem Jg{B:Nat}{w w':Vz}{b:Nat}{a c d e f g i j:Nat}{l m n o p q r s:Option Value}(h:Below B w w')(k:b<B)(t:w.cell? ⟨b,a,none⟩=l)(u:w.cell? ⟨b,c,none⟩=m)(v:w.cell? ⟨b,d,none⟩=n)(x:w.cell? ⟨b,e,none⟩=o)(y:w.cell? ⟨b,f,none⟩=p)(z:w.cell? ⟨b,g,none⟩=q)(A:w.cell? ⟨b,i,none⟩=r)(C:w.cell? ⟨b,j,none⟩=s):w'.cell? ⟨b,a,none⟩=l∧w'.cell? ⟨b,c,none⟩=m∧w'.cell? ⟨b,d,none⟩=n∧w'.cell? ⟨b,e,none⟩=o∧w'.cell? ⟨b,f,none⟩=p∧w'.cell? ⟨b,g,none⟩=q∧w'.cell? ⟨b,i,none⟩=r∧w'.cell? ⟨b,j,none⟩=s:=⟨ce h k t,ce h k u,ce h k v,ce h k x,ce h k y,ce h k z,ce h k A,ce h k C⟩
theorem Ih{a b c d e f g h i:Prop}(j:a)(k:b)(l:c)(m:d)(n:e)(o:f)(p:g)(q:h)(r:i):O a∧O b∧O c∧O d∧O e∧O f∧O g∧O h∧O i:=⟨j,k,l,m,n,o,p,q,r⟩
theorem Jh{B:Nat}{w w':Vz}{b:Nat}{a c d e f g i j l:Nat}{m n o p q r s t u:Option Value}(h:Below B w w')(k:b<B)(v:w.cell? ⟨b,a,none⟩=m)(x:w.cell? ⟨b,c,none⟩=n)(y:w.cell? ⟨b,d,none⟩=o)(z:w.cell? ⟨b,e,none⟩=p)(A:w.cell? ⟨b,f,none⟩=q)(C:w.cell? ⟨b,g,none⟩=r)(D:w.cell? ⟨b,i,none⟩=s)(E:w.cell? ⟨b,j,none⟩=t)(F:w.cell? ⟨b,l,none⟩=u):w'.cell? ⟨b,a,none⟩=m∧w'.cell? ⟨b,c,none⟩=n∧w'.cell? ⟨b,d,none⟩=o∧w'.cell? ⟨b,e,none⟩=p∧w'.cell? ⟨b,f,none⟩=q∧w'.cell? ⟨b,g,none⟩=r∧w'.cell? ⟨b,i,none⟩=s∧w'.cell? ⟨b,j,none⟩=t∧w'.cell? ⟨b,l,none⟩=u:=⟨ce h k v,ce h k x,ce h k y,ce h k z,ce h k A,ce h k C,ce h k D,ce h k E,ce h k F⟩
theorem gE{α:Type}{l:List α}{i:Nat}(h:i<l.length):l[i]?=some l[i]:=List.getElem?_eq_getElem h
theorem mO{α:Type}{l:List α}{i:Nat}{a:α}(h:l[i]?=some a):a∈l:=List.mem_of_getElem? h
theorem gZ{α:Type}{l:List α}{i:Nat}{a:α}(h:l[i]?=some a):∃k:i<l.length,l[i]=a:=List.getElem?_eq_some_iff.1 h
theorem bC{p:Prop}(h:¬p→False):p:=Classical.byContradiction h
theorem lZ{n:Nat}:n≤n:=Nat.le_refl _
theorem bR{B:Nat}{w:Vz}:Below B w w:=Below.refl _ _
theorem cM{P:Program}{f:FuncId}{a:Vw}{w:Vz}{Q R:Ending→World→Prop}(h:Calls P f a w Q)(k:∀e w',Q e w'→R e w'):Calls P f a w R:=h.mono k
structure Row (k:IntKind) (w:Vz) (a:Vx) (cap:Nat) (l:Vy):Prop where
 fit:l.length<=cap
 shape:(a=none/\cap=0)∨∃b off,a=some ⟨b,off,none⟩/\b<w.heap.size
 cell:∀i,i<l.length->∃b off,a=some ⟨b,off,none⟩/\b<w.heap.size/\w.cell? ⟨b,off+i,none⟩=some (.int k ((l.getD i 0:Nat):Int))
theorem Row.nil(k:IntKind)(w:Vz):Row k w none 0 []:=⟨by simp,.inl ⟨rfl,rfl⟩,fun i a=>by simp at a⟩
theorem Row.below{k:IntKind}{w w':Vz}{a:Vx}{cap:Nat}{l:Vy}(h:Row k w a cap l)(d:Below w.heap.size w w'):Row k w' a cap l:=by
 refine⟨h.fit,?_,fun i g=>?_⟩
 .
  rcases h.shape with e|⟨b,c,rfl,f⟩
  . exact .inl e
  . exact .inr ⟨b,c,rfl,by have:=d.size;omega⟩
 . obtain⟨b,c,e,f,j⟩:=h.cell i g
   exact⟨b,c,e,by have:=d.size;omega,ce d f j⟩
theorem Row.take{k:IntKind}{w:Vz}{a:Vx}{cap:Nat}{l:Vy}(h:Row k w a cap l)(n:Nat)(j:n<=l.length):Row k w a cap (l.take n):=by
 refine⟨by rw[List.length_take];have:=h.fit;omega,h.shape,fun i d=>?_⟩;rw[List.length_take] at d;obtain⟨b,c,e,f,g⟩:=h.cell i (by omega);refine⟨b,c,e,f,?_⟩;rw[g,List.getD_eq_getElem?_getD,List.getD_eq_getElem?_getD,List.getElem?_take_of_lt (by omega)]
def wordCells(k:IntKind)(l:Vy):Array Value:=(l.map (fun n:Nat=>Value.int k n)).toArray
def Blk(k:IntKind)(t:Vr)(w:Vz)(g:Nat)(l:Vy):Prop:=w.heap[g]?=some (.cells (wordCells k l) t (0,0))
theorem Blk.lt{k:IntKind}{t:Vr}{w:Vz}{g:Nat}{l:Vy}(h:Blk k t w g l):g<w.heap.size:=by
 apply bC;intro a;unfold Blk at h;rw[Array.getElem?_eq_none (by omega)] at h;cases h
theorem Blk.cell{k:IntKind}{t:Vr}{w:Vz}{g:Nat}{l:Vy}(h:Blk k t w g l)(i:Nat)(a:i<l.length):w.cell? ⟨g,i,none⟩=some (.int k ((l.getD i 0:Nat):Int)):=by
 unfold Blk at h;simp[World.cell?,h,wordCells,a]
theorem Blk.free{k:IntKind}{t:Vr}{w:Vz}{g:Nat}{l:Vy}(h:Blk k t w g l)(i:Nat):w.frozen? ⟨g,i,none⟩=false:=by
 unfold Blk at h;simp[World.frozen?,h]
theorem Qqq(k:IntKind)(l:Vy)(i x:Nat):(wordCells k l).setIfInBounds i (.int k (x:Int))=wordCells k (l.set i x):=by
 unfold wordCells;apply Array.ext';simp[List.map_set]
theorem Blk.set{k:IntKind}{t:Vr}{w:Vz}{g:Nat}{l:Vy}(h:Blk k t w g l)(i x:Nat):Blk k t (w.setCell ⟨g,i,none⟩ (.int k (x:Int))) g (l.set i x):=by
 unfold Blk at h ⊢;simp[World.setCell,Array.getElem?_modify,h,<-Qqq]
theorem Blk.other{k:IntKind}{t:Vr}{w:Vz}{g a:Nat}{l:Vy}(h:Blk k t w g l)(b:g≠a)(i:Nat)(v:Value):Blk k t (w.setCell ⟨a,i,none⟩ v) g l:=by
 unfold Blk at h ⊢;rw[Below.heap_setCell _ _ _ _ b];exact h
theorem Blk.drew{k:IntKind}{t:Vr}{w:Vz}{g:Nat}{l:Vy}(h:Blk k t w g l):Blk k t w.drew g l:=h
theorem Blk.alloc{k:IntKind}{t:Vr}{w:Vz}{g:Nat}{l:Vy}(h:Blk k t w g l)(o:Obj):Blk k t (w.alloc o) g l:=by
 have:=h.lt;unfold Blk at h ⊢;rw[Below.heap_alloc _ _ _ this];exact h
theorem Blk.below{k:IntKind}{t:Vr}{w w':Vz}{g B:Nat}{l:Vy}(h:Blk k t w g l)(a:Below B w w')(b:g<B):Blk k t w' g l:=by
 unfold Blk at h ⊢;rw[a.block g b];exact h
theorem Blk.new(k:IntKind)(t:Vr)(w:Vz)(l:Vy):Blk k t (w.alloc (.cells (wordCells k l) t)) w.heap.size l:=by
 show (w.heap.push _)[w.heap.size]?=_
 simp
theorem Blk.row{k:IntKind}{t:Vr}{w:Vz}{g:Nat}{l:Vy}(h:Blk k t w g l)(n:Nat)(b:n<=l.length)(cap:Nat)(c:n<=cap):Row k w (some ⟨g,0,none⟩) cap (l.take n):=by
 have hl:=h.lt;refine⟨by rw[List.length_take];omega,.inr ⟨g,0,rfl,hl⟩,fun i a=>⟨g,0,rfl,hl,?_⟩⟩;rw[List.length_take] at a;have:=h.cell i (by omega);rw[Nat.zero_add,this,List.getD_eq_getElem?_getD,List.getD_eq_getElem?_getD,List.getElem?_take_of_lt (by omega)]
theorem Qap(n:Int):IntKind.u64.wrap n=n % 18446744073709551616:=by
 simp[IntKind.wrap,IntKind.signed,IntKind.bits]
def zeros(n:Nat):List Nat:=List.replicate n 0
theorem Qaf(n:Nat):(zeros n).length=n:=by unfold zeros;simp
theorem Qal(B n:Nat)(hB:0<B):Small B (zeros n):=Small.replicate B n hB
theorem Qb0(n j:Nat):(zeros n).getD j 0=0:=by
 unfold zeros;rw[List.getD_eq_getElem?_getD,List.getElem?_replicate]
 split<;>rfl
theorem Qd9(B n:Nat):val B (zeros n)=0:=Qom B n
theorem Qea(k:IntKind)(n:Nat):madeCells #[Value.int k 0] n=wordCells k (zeros n):=by
 unfold madeCells wordCells zeros;apply Array.ext
 . simp
 . intro i a b
   simp[Nat.mod_one]
theorem Tryz.info32:(prog.info? 201).map (fun i=>(i.zero,i.size,i.bytes))=some (some (.int .u32 0),1,4):=by kernel_rfl
theorem Tryz.info64:(prog.info? 170).map (fun i=>(i.zero,i.size,i.bytes))=some (some (.int .u64 0),1,8):=by kernel_rfl
theorem Qa6(L:Int)(n:Nat)(a:L=n)(b:n<=2199023255552)(w:Vz):
 (Instr.makeSlice 120 (.int .i64 L) (.int .i64 L)).run prog w=.ok (.slice (some ⟨w.heap.size,0,none⟩) n n) (w.alloc (.cells (wordCells .u32 (zeros n)) 201)):=by
 subst a;rw[<-Qea];exact Go.run_make_row' 120 201 (.int .u32 0) 4 underlying120 Tryz.info32 rfl .i64 .i64 n (by omega) (by omega) w
structure U32 (w:Vz) (a:Vx) (cap:Nat) (l:Vy) (n:Nat):Prop where
 row:Row .u32 w a cap l
 num:Num 4294967296 l n
 short:l.length<=1099511627776
theorem U32.below{w w':Vz}{a:Vx}{cap:Nat}{l:Vy}{n:Nat}(h:U32 w a cap l n)(b:Bl w w'):U32 w' a cap l n:=⟨h.row.below b,h.num,h.short⟩
theorem Qbe(H I:Vx)(c1 c2:Nat)(l m:Vy)(x y:Nat)(w:Vz)(a:U32 w H c1 l x)(c:U32 w I c2 m y):
 Calls prog 120 #[.slice H l.length c1,.slice I m.length c2] w fun e w'=>e=.returned (.int .i64 (cmp3 x y))/\Bl w w':=by
 have S:=a.short;have T:=c.short;by_cases f:l.length<m.length
 .
  have t:((l.length:Int) != (m.length:Int))=true:=by rw[bne_iff_ne];omega
  have u:cmp3 x y= -1:=Qc1 (by rw[<-a.num.eq,<-c.num.eq];exact Qav (by omega) a.num.small c.num.trim f);have A:O (cmp3 x y= -1):=u;clear u;go_enter func120,ntmps120;go_wp2;go_ret;exact⟨by rw[A.o];rfl,Below.refl _ _⟩
 by_cases v:m.length<l.length
 .
  have t:((l.length:Int) != (m.length:Int))=true:=by rw[bne_iff_ne];omega
  have u:cmp3 x y=1:=Qdz (by rw[<-a.num.eq,<-c.num.eq];exact Qav (by omega) c.num.small a.num.trim v);have A:O (cmp3 x y=1):=u;clear u;go_enter func120,ntmps120;go_wp2;go_ret;exact⟨by rw[A.o];rfl,Below.refl _ _⟩
 have n:m.length=l.length:=by omega
 have J:O (m.length=l.length):=n;rw[n];have t:((l.length:Int) != (l.length:Int))=false:=by simp
 clear f v n;go_enter func120,ntmps120;go_wp2;go_loopw [5] (fun i wr=>∃k:Nat,k<=l.length/\i=.int .i64 ((k:Int) - 1)/\l.drop k=m.drop k/\Bl w wr) (fun i _=>(intOf i+1).toNat)
 case atStart=>exact⟨l.length,Nat.le_refl _,rfl,by rw[List.drop_of_length_le lZ,List.drop_of_length_le (by rw[J.o];exact Nat.le_refl _)],Below.refl _ _⟩
 case round=>
  obtain⟨k,hk,rfl,r,s⟩:=hrel;have z:O (l.drop k=m.drop k):=r;clear r;by_cases N:k=0
  .
   subst N;go_wp2;go_ret;exact⟨by rw[Qic (by rw[<-a.num.eq,<-c.num.eq];have:=z.o;simp at this;rw[this])];rfl,s⟩
  .
   obtain⟨j,rfl⟩:∃j,k=j+1:=⟨k - 1,by omega⟩;have g:j<l.length:=by omega
   have h:j<m.length:=by have:=J.o;omega
   obtain⟨b,P,rfl,B,p⟩:=a.row.cell j g;obtain⟨U,K,rfl,C,q⟩:=c.row.cell j h;obtain⟨d,r⟩:=nm (l.getD j 0);obtain⟨e,D⟩:=nm (m.getD j 0);rw[r] at p;rw[D] at q;have L:=ce s B p;have M:=ce s C q;have E:O (l.getD j 0=d):=r;have F:O (m.getD j 0=e):=D;clear r D p q;have Q:((j+1:Nat):Int) - 1=(j:Int):=by omega
   rw[Q];by_cases G:d=e
   .
    subst G;have R:((d:Int) != (d:Int))=false:=by simp
    go_wp2;go_region
    all_goals
     go_wp2;go_roundw
     case rel=>exact⟨j,by omega,by go_num,Qid g h z.o (E.o.trans F.o.symm),s.drew⟩
     case measure=>simp[intOf]
   .
    have R:((d:Int) != (e:Int))=true:=by rw[bne_iff_ne];omega
    by_cases f:d<e
    .
     go_wp2;go_region
     all_goals
      go_wp2;go_region
     all_goals
      go_wp2;go_ret;exact⟨by rw[Qc1 (by rw[<-a.num.eq,<-c.num.eq];exact Qd0 (by omega) a.num.small j g h z.o (by rw[E.o,F.o];exact f))];rfl,s.drew.drew⟩
    .
     go_wp2;go_region
     all_goals
      go_wp2;go_region
     all_goals
      go_wp2;go_ret;exact⟨by rw[Qdz (by rw[<-a.num.eq,<-c.num.eq];exact Qd0 (by omega) c.num.small j h g z.o.symm (by rw[E.o,F.o];omega))];rfl,s.drew.drew⟩
theorem Qnm(l:Vy)(k:Nat)(hk:k<=l.length)(h:k=0∨l.getD (k - 1) 0≠0):Trim (l.take k):=by
 rcases h with rfl|h
 . left;simp
 .
  by_cases a:k=0
  . left;subst a;simp
  .
   right;rw[List.length_take,Nat.min_eq_left hk,List.getD_eq_getElem?_getD,List.getElem?_take_of_lt (by omega),<-List.getD_eq_getElem?_getD];exact h
theorem Qnn(B:Nat)(l:Vy)(k:Nat)(hk:k<l.length)(h:l.getD k 0=0):val B (l.take (k+1))=val B (l.take k):=by
 rw[Qbu B l k hk,h];simp
theorem Qht(a:Vx)(cap:Nat)(l:Vy)(w:Vz)(h:Row .u32 w a cap l)(hl:l.length<=1099511627776):
 Calls prog 154 #[.slice a l.length cap] w fun e w'=>(∃k,k<=l.length/\e=.returned (.slice a k cap)/\val 4294967296 (l.take k)=val 4294967296 l/\Trim (l.take k))/\w'=w:=by
 have i:=h.fit;go_enter func154,ntmps154;go_wp2;go_loop [3] (fun n=>∃k:Nat,k<=l.length/\n=.int .i64 k/\val 4294967296 (l.take k)=val 4294967296 l) (fun n=>(intOf n).toNat)
 case atStart=>exact⟨l.length,Nat.le_refl _,rfl,by rw[List.take_length]⟩
 case round=>
  obtain⟨k,hk,rfl,m⟩:=hrel;have c:O (val 4294967296 (l.take k)=val 4294967296 l):=m;clear m;by_cases s:k=0
  .
   subst s;rcases h.shape with ⟨rfl,rfl⟩|⟨b,f,rfl,t⟩
   all_goals
    go_wp2;go_ret;exact⟨⟨0,by omega,by simp,c.o,.inl (by simp)⟩,rfl⟩
  .
   obtain⟨b,f,rfl,t,p⟩:=h.cell (k - 1) (by omega);obtain⟨j,rfl⟩:∃j,k=j+1:=⟨k - 1,by omega⟩;simp only[Nat.add_sub_cancel] at p;obtain⟨d,g⟩:=nm (l.getD j 0);rw[g] at p;have q:O (l.getD j 0=d):=g;clear g;by_cases r:d=0
   .
    subst r;go_wp2;go_round
    case rel=>exact⟨j,by omega,by go_num,(Qnn _ l j (by omega) q.o).symm.trans c.o⟩
    case measure=>simp[intOf]
   .
    have u:((d:Int) == 0)=false:=by simp;omega
    go_wp2;go_ret;exact⟨⟨j+1,hk,by simp,c.o,Qnm l (j+1) hk (.inr (by rw[Nat.add_sub_cancel,q.o];exact r))⟩,rfl⟩
theorem Qa2(g n cap x:Nat)(rs:Vy)(w:Vz)(h:Blk .u32 201 w g rs)(hl:rs.length=n)(hs:Small 4294967296 rs)(j:n<=cap)(l:n<=1099511627776)(k:val 4294967296 rs=x):
 Calls prog 154 #[.slice (some ⟨g,0,none⟩) n cap] w fun e w'=>(∃a cap r,e=.returned (.slice a r.length cap)/\U32 w a cap r x)/\w'=w:=by
 have c:=h.row n (by omega) cap j;rw[List.take_of_length_le (by omega)] at c;have i:=Qht (some ⟨g,0,none⟩) cap rs w c (by omega);rw[hl] at i;refine i.mono ?_;rintro e m ⟨⟨q,o,rfl,d,f⟩,rfl⟩;have b:(rs.take q).length=q:=by rw[List.length_take];omega
 exact⟨⟨_,cap,rs.take q,by rw[b],c.take q (by omega),⟨hs.take q,f,d.trans k⟩,by rw[b];omega⟩,rfl⟩
theorem Qho(a1 a2:Vx)(c1 c2:Nat)(l m:Vy)(x y:Nat)(w:Vz)(M:U32 w a1 c1 l x)(N:U32 w a2 c2 m y)(hl:l.length<1099511627776)(hm:m.length<1099511627776):
 Calls prog 111 #[.slice a1 l.length c1,.slice a2 m.length c2] w fun e w'=>(∃a cap r,e=.returned (.slice a r.length cap)/\U32 w' a cap r (x+y))/\Bl w w':=by
 by_cases aa:l.length<m.length
 .
  have u:∀w,(Instr.makeSlice 120 (.int .i64 ((m.length:Int)+1)) (.int .i64 ((m.length:Int)+1))).run prog w=.ok (.slice (some ⟨w.heap.size,0,none⟩) (m.length+1) (m.length+1)) (w.alloc (.cells (wordCells .u32 (zeros (m.length+1))) 201)):=
   fun w=>Qa6 _ (m.length+1) (by omega) (by omega) w
  go_enter func111,ntmps111;go_wp2;clear u;go_loopw [6,7] (fun c i wr=>∃(k v:Nat) (rs:Vy),k<=m.length/\v<=1/\c=.int .u64 v/\i=.int .i64 k/\Blk .u32 201 wr w.heap.size rs/\rs.length=m.length+1/\Small 4294967296 rs/\
   val 4294967296 (rs.take k)+4294967296 ^ k*v=val 4294967296 (m.take k)+val 4294967296 (l.take k)/\Bl w wr) (fun _ i _=>m.length - (intOf i).toNat)
  case atStart=>exact⟨0,0,zeros (m.length+1),by omega,by omega,rfl,rfl,Blk.new _ _ _ _,Qaf _,Qal _ _ (by omega),by simp[val],bR.alloc lZ _⟩
  case round=>
   obtain⟨k,c,rs,hk,hc,rfl,rfl,hB,g,h,P,p⟩:=hrel;have A:O (val 4294967296 (rs.take k)+4294967296 ^ k*c=val 4294967296 (m.take k)+val 4294967296 (l.take k)):=P;have f:O (rs.length=m.length+1):=g;have B:O (Blk .u32 201 wr w.heap.size rs):=hB;clear P;by_cases C:k<m.length
   .
    obtain⟨b,U,rfl,D,j⟩:=N.row.cell k C;obtain⟨d,s⟩:=nm (m.getD k 0);have V:d<4294967296:=by rw[<-s];exact N.num.small.getD (by omega) k
    rw[s] at j;have Q:=ce p D j;have R:O (m.getD k 0=d):=s;obtain⟨z,q⟩:=nm (rs.getD k 0);have W:=hB.free k;have E:=hB.cell k (by omega);rw[q] at E;clear s j q hB g;by_cases F:k<l.length
    .
     obtain⟨b',S,rfl,G,n⟩:=M.row.cell k F;obtain⟨e,t⟩:=nm (l.getD k 0);have X:e<4294967296:=by rw[<-t];exact M.num.small.getD (by omega) k
     rw[t] at n;have T:=ce p G n;have Y:O (l.getD k 0=e):=t;clear t n;have H:O (((c:Int)+d+e) % 4294967296=(((c+(d+e)) % 4294967296:Nat):Int)):=by unfold O;omega
     have I:O (((c:Int)+d+e) / 4294967296=(((c+(d+e)) / 4294967296:Nat):Int)):=by unfold O;omega
     go_wp2;go_roundw
     case rel=>
      rw[H.o,I.o];exact⟨k+1,(c+(d+e)) / 4294967296,rs.set k ((c+(d+e)) % 4294967296),by omega,by omega,rfl,by go_num,B.o.set k _,by rw[List.length_set];exact f.o,h.set k (by omega),Qd1 k c d e rs m l (by have:=f.o;omega) R.o Y.o A.o,p.setCell lZ _⟩
     case measure=>simp[intOf];omega
    .
     have H:O (((c:Int)+d) % 4294967296=(((c+(d+0)) % 4294967296:Nat):Int)):=by unfold O;omega
     have I:O (((c:Int)+d) / 4294967296=(((c+(d+0)) / 4294967296:Nat):Int)):=by unfold O;omega
     go_wp2;go_roundw
     case rel=>
      rw[H.o,I.o];exact⟨k+1,(c+(d+0)) / 4294967296,rs.set k ((c+(d+0)) % 4294967296),by omega,by omega,rfl,by go_num,B.o.set k _,by rw[List.length_set];exact f.o,h.set k (by omega),Qd1 k c d 0 rs m l (by have:=f.o;omega) R.o (Qbv l k (by omega)) A.o,p.setCell lZ _⟩
     case measure=>simp[intOf];omega
   .
    obtain⟨z,q⟩:=nm (rs.getD m.length 0);have W:=hB.free m.length;have E:=hB.cell m.length (by omega);rw[q] at E;clear q hB g;go_wp2_with fail;have J:(rs.set m.length c).length=m.length+1:=by rw[List.length_set];exact f.o
    have K:Blk .u32 201 (wr.setCell ⟨w.heap.size,m.length,none⟩ (.int .u32 (c:Int))) w.heap.size (rs.set m.length c):=B.o.set m.length c;have L:val 4294967296 (rs.set m.length c)=x+y:=by
     rw[Qfh _ _ _ _ f.o];have Z:k=m.length:=by omega
     have e2:=A.o;rw[Z,List.take_length,Qa7 _ l _ (by omega),N.num.eq,M.num.eq] at e2;omega
    refine(Qa2 w.heap.size (m.length+1) (m.length+1) (x+y) (rs.set m.length c) _ K J (h.set _ (by omega)) lZ (by omega) L).mono ?_;rintro e w1 ⟨⟨a,cap,r,rfl,hu⟩,rfl⟩;go_wp2;go_ret;exact⟨⟨a,cap,r,rfl,hu⟩,p.setCell lZ _⟩
 .
  have u:∀w,(Instr.makeSlice 120 (.int .i64 ((l.length:Int)+1)) (.int .i64 ((l.length:Int)+1))).run prog w=.ok (.slice (some ⟨w.heap.size,0,none⟩) (l.length+1) (l.length+1)) (w.alloc (.cells (wordCells .u32 (zeros (l.length+1))) 201)):=
   fun w=>Qa6 _ (l.length+1) (by omega) (by omega) w
  go_enter func111,ntmps111;go_wp2;clear u;go_loopw [6,7] (fun c i wr=>∃(k v:Nat) (rs:Vy),k<=l.length/\v<=1/\c=.int .u64 v/\i=.int .i64 k/\Blk .u32 201 wr w.heap.size rs/\rs.length=l.length+1/\Small 4294967296 rs/\
   val 4294967296 (rs.take k)+4294967296 ^ k*v=val 4294967296 (l.take k)+val 4294967296 (m.take k)/\Bl w wr) (fun _ i _=>l.length - (intOf i).toNat)
  case atStart=>exact⟨0,0,zeros (l.length+1),by omega,by omega,rfl,rfl,Blk.new _ _ _ _,Qaf _,Qal _ _ (by omega),by simp[val],bR.alloc lZ _⟩
  case round=>
   obtain⟨k,c,rs,hk,hc,rfl,rfl,hB,g,h,P,p⟩:=hrel;have A:O (val 4294967296 (rs.take k)+4294967296 ^ k*c=val 4294967296 (l.take k)+val 4294967296 (m.take k)):=P;have f:O (rs.length=l.length+1):=g;have B:O (Blk .u32 201 wr w.heap.size rs):=hB;clear P;by_cases C:k<l.length
   .
    obtain⟨b,U,rfl,D,j⟩:=M.row.cell k C;obtain⟨d,s⟩:=nm (l.getD k 0);have V:d<4294967296:=by rw[<-s];exact M.num.small.getD (by omega) k
    rw[s] at j;have Q:=ce p D j;have R:O (l.getD k 0=d):=s;obtain⟨z,q⟩:=nm (rs.getD k 0);have W:=hB.free k;have E:=hB.cell k (by omega);rw[q] at E;clear s j q hB g;by_cases F:k<m.length
    .
     obtain⟨b',S,rfl,G,n⟩:=N.row.cell k F;obtain⟨e,t⟩:=nm (m.getD k 0);have X:e<4294967296:=by rw[<-t];exact N.num.small.getD (by omega) k
     rw[t] at n;have T:=ce p G n;have Y:O (m.getD k 0=e):=t;clear t n;have H:O (((c:Int)+d+e) % 4294967296=(((c+(d+e)) % 4294967296:Nat):Int)):=by unfold O;omega
     have I:O (((c:Int)+d+e) / 4294967296=(((c+(d+e)) / 4294967296:Nat):Int)):=by unfold O;omega
     go_wp2;go_roundw
     case rel=>
      rw[H.o,I.o];exact⟨k+1,(c+(d+e)) / 4294967296,rs.set k ((c+(d+e)) % 4294967296),by omega,by omega,rfl,by go_num,B.o.set k _,by rw[List.length_set];exact f.o,h.set k (by omega),Qd1 k c d e rs l m (by have:=f.o;omega) R.o Y.o A.o,p.setCell lZ _⟩
     case measure=>simp[intOf];omega
    .
     have H:O (((c:Int)+d) % 4294967296=(((c+(d+0)) % 4294967296:Nat):Int)):=by unfold O;omega
     have I:O (((c:Int)+d) / 4294967296=(((c+(d+0)) / 4294967296:Nat):Int)):=by unfold O;omega
     go_wp2;go_roundw
     case rel=>
      rw[H.o,I.o];exact⟨k+1,(c+(d+0)) / 4294967296,rs.set k ((c+(d+0)) % 4294967296),by omega,by omega,rfl,by go_num,B.o.set k _,by rw[List.length_set];exact f.o,h.set k (by omega),Qd1 k c d 0 rs l m (by have:=f.o;omega) R.o (Qbv m k (by omega)) A.o,p.setCell lZ _⟩
     case measure=>simp[intOf];omega
   .
    obtain⟨z,q⟩:=nm (rs.getD l.length 0);have W:=hB.free l.length;have E:=hB.cell l.length (by omega);rw[q] at E;clear q hB g;go_wp2_with fail;have J:(rs.set l.length c).length=l.length+1:=by rw[List.length_set];exact f.o
    have K:Blk .u32 201 (wr.setCell ⟨w.heap.size,l.length,none⟩ (.int .u32 (c:Int))) w.heap.size (rs.set l.length c):=B.o.set l.length c;have L:val 4294967296 (rs.set l.length c)=x+y:=by
     rw[Qfh _ _ _ _ f.o];have Z:k=l.length:=by omega
     have e2:=A.o;rw[Z,List.take_length,Qa7 _ m _ (by omega),M.num.eq,N.num.eq] at e2;omega
    refine(Qa2 w.heap.size (l.length+1) (l.length+1) (x+y) (rs.set l.length c) _ K J (h.set _ (by omega)) lZ (by omega) L).mono ?_;rintro e w1 ⟨⟨a,cap,r,rfl,hu⟩,rfl⟩;go_wp2;go_ret;exact⟨⟨a,cap,r,rfl,hu⟩,p.setCell lZ _⟩
theorem Qhs(V W:Vx)(c1 c2:Nat)(l m:Vy)(x y:Nat)(w:Vz)(A:U32 w V c1 l x)(C:U32 w W c2 m y)(ad:y<=x):
 Calls prog 225 #[.slice V l.length c1,.slice W m.length c2] w fun e w'=>(∃a cap r,e=.returned (.slice a r.length cap)/\U32 w' a cap r (x - y))/\Bl w w':=by
 have ae:m.length<=l.length:=by
  apply bC;intro H;have:=Qav (B:=4294967296) (by omega) A.num.small C.num.trim (by omega);rw[A.num.eq,C.num.eq] at this;omega
 have s1:=A.short;have I:∀w,(Instr.makeSlice 120 (.int .i64 (l.length:Int)) (.int .i64 (l.length:Int))).run prog w=.ok (.slice (some ⟨w.heap.size,0,none⟩) l.length l.length) (w.alloc (.cells (wordCells .u32 (zeros l.length)) 201)):=
  fun w=>Qa6 _ l.length rfl (by omega) w
 go_enter func225,ntmps225;go_wp2;clear I;go_loopw [6,7] (fun c i wr=>∃(k f:Nat) (rs:Vy),k<=l.length/\f<=1/\c=.int .u64 f/\i=.int .i64 k/\Blk .u32 201 wr w.heap.size rs/\rs.length=l.length/\Small 4294967296 rs/\
  val 4294967296 (rs.take k)+val 4294967296 (m.take k)=val 4294967296 (l.take k)+4294967296 ^ k*f/\Bl w wr) (fun _ i _=>l.length - (intOf i).toNat)
 case atStart=>exact⟨0,0,zeros l.length,by omega,by omega,rfl,rfl,Blk.new _ _ _ _,Qaf _,Qal _ _ (by omega),by simp[val],bR.alloc lZ _⟩
 case round=>
  obtain⟨k,c,rs,hk,H,rfl,rfl,hB,j,n,X,D⟩:=hrel;have J:O (val 4294967296 (rs.take k)+val 4294967296 (m.take k)=val 4294967296 (l.take k)+4294967296 ^ k*c):=X;have g:O (rs.length=l.length):=j;have K:O (Blk .u32 201 wr w.heap.size rs):=hB;clear X;by_cases L:k<l.length
  .
   obtain⟨b,af,rfl,M,s⟩:=A.row.cell k L;obtain⟨d,F⟩:=nm (l.getD k 0);have E:d<4294967296:=by rw[<-F];exact A.num.small.getD (by omega) k
   rw[F] at s;have Y:=ce D M s;have Z:O (l.getD k 0=d):=F;obtain⟨z,hz⟩:=nm (rs.getD k 0);have g1:=hB.free k;have g2:=hB.cell k (by omega);rw[hz] at g2;clear F s hz hB j;by_cases N:k<m.length
   .
    obtain⟨b',aa,rfl,P,t⟩:=C.row.cell k N;obtain⟨e,G⟩:=nm (m.getD k 0);have Q:e<4294967296:=by rw[<-G];exact C.num.small.getD (by omega) k
    rw[G] at t;have ab:=ce D P t;have H2:O (m.getD k 0=e):=G;clear G t;obtain⟨r,f,u,v,h,p,q⟩:=Qie d c e E Q H;have R:O (r+c+e=d+4294967296*f):=h;have S:O (((((d:Int) - c) % 18446744073709551616 - e) % 18446744073709551616) % 4294967296=(r:Int)):=p;have T:O (((((d:Int) - c) % 18446744073709551616 - e) % 18446744073709551616) / 9223372036854775808=(f:Int)):=q;clear h p q;go_wp2;go_roundw
    case rel=>
     simp only[Qap,S.o,T.o];exact⟨k+1,f,rs.set k r,by omega,v,rfl,by go_num,K.o.set k _,by rw[List.length_set];exact g.o,n.set k u,Qfi _ k c d e r f rs l m (by have:=g.o;omega) Z.o H2.o R.o J.o,D.setCell lZ _⟩
    case measure=>simp[intOf];omega
   .
    obtain⟨r,f,u,v,h,p,q⟩:=Qie d c 0 E (by omega) H;have R:O (r+c+0=d+4294967296*f):=h;have S:O ((((d:Int) - c) % 18446744073709551616) % 4294967296=(r:Int)):=by unfold O;omega
    have T:O ((((d:Int) - c) % 18446744073709551616) / 9223372036854775808=(f:Int)):=by unfold O;omega
    clear h p q;go_wp2;go_roundw
    case rel=>
     simp only[Qap,S.o,T.o];exact⟨k+1,f,rs.set k r,by omega,v,rfl,by go_num,K.o.set k _,by rw[List.length_set];exact g.o,n.set k u,Qfi _ k c d 0 r f rs l m (by have:=g.o;omega) Z.o (Qbv m k (by omega)) R.o J.o,D.setCell lZ _⟩
    case measure=>simp[intOf];omega
  .
   have U:val 4294967296 rs=x - y:=by
    have e1:k=l.length:=by omega
    have e2:=J.o;rw[e1,List.take_length,Qa7 _ m _ (by omega),List.take_of_length_le (by omega),A.num.eq,C.num.eq] at e2;have e3:=Qaa (B:=4294967296) (by omega) n;rw[j] at e3;have e4:c=0:=by
     apply bC;intro ag;have:c=1:=by omega
     subst this;omega
    subst e4;omega
   clear j hB;go_wp2_with fail;refine(Qa2 w.heap.size l.length l.length (x - y) rs _ K.o g.o n lZ (by omega) U).mono ?_;rintro e w1 ⟨⟨a,cap,r,rfl,hu⟩,rfl⟩;go_wp2;go_ret;exact⟨⟨a,cap,r,rfl,hu⟩,D⟩
theorem Qhq(a1 a2:Vx)(c1 c2:Nat)(l m:Vy)(x y:Nat)(w:Vz)(H:U32 w a1 c1 l x)(I:U32 w a2 c2 m y)(M:l.length+m.length<=1099511627776):
 Calls prog 112 #[.slice a1 l.length c1,.slice a2 m.length c2] w fun e w'=>(∃a cap r,e=.returned (.slice a r.length cap)/\U32 w' a cap r (x*y))/\Bl w w':=by
 by_cases q:l.length=0
 .
  have hx:x=0:=(H.num.len_zero (by omega)).2 q;have q1:((l.length:Int) == 0)=true:=by simp[q]
  have N:O (x=0):=hx;clear q hx;go_enter func112,ntmps112;go_wp2;go_ret;exact⟨⟨none,0,[],rfl,by rw[N.o,Nat.zero_mul];exact⟨Row.nil _ _,Num.zero _,by simp⟩⟩,Below.refl _ _⟩
 by_cases s:m.length=0
 .
  have hy:y=0:=(I.num.len_zero (by omega)).2 s;have q1:((l.length:Int) == 0)=false:=by rw[beq_eq_false_iff_ne];omega
  have q2:((m.length:Int) == 0)=true:=by simp[s]
  have N:O (y=0):=hy;clear s hy;go_enter func112,ntmps112;go_wp2;go_ret;exact⟨⟨none,0,[],rfl,by rw[N.o,Nat.mul_zero];exact⟨Row.nil _ _,Num.zero _,by simp⟩⟩,Below.refl _ _⟩
 have q1:((l.length:Int) == 0)=false:=by rw[beq_eq_false_iff_ne];omega
 have q2:((m.length:Int) == 0)=false:=by rw[beq_eq_false_iff_ne];omega
 have P:∀w,(Instr.makeSlice 120 (.int .i64 ((l.length:Int)+(m.length:Int))) (.int .i64 ((l.length:Int)+(m.length:Int)))).run prog w=.ok (.slice (some ⟨w.heap.size,0,none⟩) (l.length+m.length) (l.length+m.length)) (w.alloc (.cells (wordCells .u32 (zeros (l.length+m.length))) 201)):=
  fun w=>Qa6 _ (l.length+m.length) (by omega) (by omega) w
 go_enter func112,ntmps112;go_wp2;clear P;go_loopw [6] (fun i wr=>∃(k:Nat) (rs:Vy),k<=l.length/\i=.int .i64 k/\Blk .u32 201 wr w.heap.size rs/\rs.length=l.length+m.length/\Small 4294967296 rs/\
  val 4294967296 (rs.take (k+m.length))=val 4294967296 (l.take k)*y/\Bl w wr) (fun i _=>l.length - (intOf i).toNat)
 case atStart=>exact⟨0,zeros (l.length+m.length),by omega,rfl,Blk.new _ _ _ _,Qaf _,Qal _ _ (by omega),by rw[show (zeros (l.length+m.length)).take (0+m.length)=zeros m.length from by unfold zeros;simp,Qd9];simp[val],bR.alloc lZ _⟩
 case round=>
  obtain⟨k,rs,hk,rfl,hB,g,h,C,p⟩:=hrel;have A:O (val 4294967296 (rs.take (k+m.length))=val 4294967296 (l.take k)*y):=C;have f:O (rs.length=l.length+m.length):=g;have B:O (Blk .u32 201 wr w.heap.size rs):=hB;have n:O (Small 4294967296 rs):=h;clear C h;by_cases Q:k<l.length
  .
   obtain⟨b,ae,rfl,R,D⟩:=H.row.cell k Q;obtain⟨d,J⟩:=nm (l.getD k 0);have S:d<4294967296:=by rw[<-J];exact H.num.small.getD (by omega) k
   rw[J] at D;have H1:O (l.getD k 0=d):=J;clear J g hB;go_wp2;have E:O (Bl w wr):=p;clear p;go_loopw [7,8] (fun c j wr=>∃(i T:Nat) (rs:Vy),i<=m.length/\T<4294967296/\c=.int .u64 T/\j=.int .i64 i/\Blk .u32 201 wr w.heap.size rs/\rs.length=l.length+m.length/\Small 4294967296 rs/\
    val 4294967296 (rs.take (k+m.length))+4294967296 ^ (k+i)*T=val 4294967296 (l.take k)*y+4294967296 ^ k*(d*val 4294967296 (m.take i))/\Bl w wr) (fun _ j _=>m.length - (intOf j).toNat)
   case atStart=>exact⟨0,0,rs,by omega,by omega,rfl,rfl,B.o,f.o,n.o,by rw[A.o];simp[val],E.o⟩
   case round=>
    clear B f n A E;obtain⟨i,c,rs,hi,hc,rfl,rfl,hB,g,h,C,p⟩:=hrel;have A:O (val 4294967296 (rs.take (k+m.length))+4294967296 ^ (k+i)*c=val 4294967296 (l.take k)*y+4294967296 ^ k*(d*val 4294967296 (m.take i))):=C;have f:O (rs.length=l.length+m.length):=g;have B:O (Blk .u32 201 wr w.heap.size rs):=hB;have n:O (Small 4294967296 rs):=h;clear C;by_cases F:i<m.length
    .
     obtain⟨b',aa,rfl,U,u⟩:=I.row.cell i F;obtain⟨e,K⟩:=nm (m.getD i 0);have V:e<4294967296:=by rw[<-K];exact I.num.small.getD (by omega) i
     rw[K] at u;have ab:=ce p R D;have ad:=ce p U u;have H2:O (m.getD i 0=e):=K;obtain⟨z,v⟩:=nm (rs.getD (k+i) 0);have af:z<4294967296:=by rw[<-v];exact h.getD (by omega) _
     have g1:=hB.free (k+i);have W:=hB.cell (k+i) (by omega);rw[v] at W;have HZ:O (rs.getD (k+i) 0=z):=v;clear K u v hB g h;have hp:=Qd2 S V;obtain⟨t,L⟩:∃t:Nat,t=d*e:=⟨_,rfl⟩;have ag:(d:Int)*(e:Int)=(t:Int):=by rw[L];simp
     have ah:t<=18446744065119617025:=by rw[L];exact hp
     have HT:O (t=d*e):=L;clear L hp;have ev:O (((c:Int)+(t+z)) % 4294967296=(((c+(t+z)) % 4294967296:Nat):Int)):=by unfold O;omega
     have ec:O (((c:Int)+(t+z)) / 4294967296=(((c+(t+z)) / 4294967296:Nat):Int)):=by unfold O;omega
     go_wp2;go_region
     all_goals
      go_wp2;go_roundw
      case rel=>
       rw[ev.o,ec.o];exact⟨i+1,(c+(t+z)) / 4294967296,rs.set (k+i) ((c+(t+z)) % 4294967296),by omega,by omega,rfl,by go_num,(B.o.set (k+i) _).drew,by rw[List.length_set];exact f.o,n.o.set _ (by omega),Qor _ k i d e t _ c z _ rs m HT.o H2.o (by have:=f.o;omega) (by omega) HZ.o A.o,(p.setCell lZ _).drew⟩
      case measure=>simp[intOf];omega
    .
     obtain⟨z,v⟩:=nm (rs.getD (k+m.length) 0);have g1:=hB.free (k+m.length);have W:=hB.cell (k+m.length) (by omega);rw[v] at W;clear v hB g h;have hv2:val 4294967296 ((rs.set (k+m.length) c).take (k+1+m.length))=val 4294967296 (l.take (k+1))*y:=by
      have X:i=m.length:=by omega
      have G:=A.o;rw[X,List.take_length,I.num.eq] at G;exact Qos _ k d c y m.length rs l H1.o (by have:=f.o;omega) G
     have Y:O (val 4294967296 ((rs.set (k+m.length) c).take (k+1+m.length))=val 4294967296 (l.take (k+1))*y):=hv2;clear hv2;go_wp2;go_roundw
     case rel=>exact⟨k+1,rs.set (k+m.length) c,by omega,by go_num,B.o.set (k+m.length) c,by rw[List.length_set];exact f.o,n.o.set _ hc,Y.o,p.setCell lZ _⟩
     case measure=>simp[intOf];omega
  .
   have Z:val 4294967296 rs=x*y:=by
    have X:k=l.length:=by omega
    have G:=A.o;rw[X,List.take_length,List.take_of_length_le (by omega),H.num.eq] at G;exact G
   clear g hB;go_wp2_with fail;refine(Qa2 w.heap.size (l.length+m.length) (l.length+m.length) (x*y) rs _ B.o f.o n.o lZ M Z).mono ?_;rintro e w1 ⟨⟨a,cap,r,rfl,hu⟩,rfl⟩;go_wp2;go_ret;exact⟨⟨a,cap,r,rfl,hu⟩,p⟩
theorem Qno{k:IntKind}{w:Vz}{b:Nat}{e:Vr}{v:Value}{l:Vy}(h:w.ownsRow b e 1 v l.length (l.map (fun n:Nat=>Value.int k n))):
 ∃a cap,v=.slice a l.length cap/\Row k w a cap l:=by
 obtain⟨x,p⟩:=h;rcases p with ⟨rfl,q⟩|⟨g,cap,c,rfl,y,f,j,r,s,m⟩
 .
  have:l= []:=List.length_eq_zero_iff.1 q;subst this;exact⟨none,0,rfl,Row.nil k w⟩
 .
  have d:g<w.heap.size:=by
   apply bC;intro z;rw[Array.getElem?_eq_none (by omega)] at f;cases f
  refine⟨_,cap,rfl,j,.inr ⟨g,0,rfl,d⟩,fun i t=>⟨g,0,rfl,d,?_⟩⟩;have u:c[i]?=some (.int k ((l.getD i 0:Nat):Int)):=by
   have o:(c.toList.take (l.length*1))[i]?=(l.map (fun n:Nat=>Value.int k n))[i]?:=by rw[m]
   rw[List.getElem?_take_of_lt (by omega),Array.getElem?_toList] at o;rw[o];simp[t]
  simp[World.cell?,f,u]
theorem Qau(b a j:Nat):(⟨b,a,none⟩:Addr).add j=⟨b,a+j,none⟩:=by
 unfold Addr.add
 split
 . rename_i h;subst h;rfl
 . rfl
theorem Qnp(x:Nat):val 4294967296 [x % 4294967296,x / 4294967296]=x:=by
 simp only[val];omega
theorem Qbs(X:Int)(w:Vz)(g:0<=X)(i:X<18446744073709551616):
 Calls prog 113 #[.int .u64 X] w fun e w'=>(∃a cap r,e=.returned (.slice a r.length cap)/\U32 w' a cap r X.toNat/\r.length<=2)/\Bl w w':=by
 obtain⟨x,rfl⟩:=Int.eq_ofNat_of_zero_le g;rw[Int.toNat_natCast];go_enter func113,ntmps113;go_wp2_with fail;have b:(x:Int) % 4294967296=((x % 4294967296:Nat):Int):=by omega
 have c:(x:Int) / 4294967296=((x / 4294967296:Nat):Int):=by omega
 have hB:Blk .u32 201 (w.alloc (Obj.cells #[Value.int IntKind.u32 ((x:Int) % 4294967296),Value.int IntKind.u32 ((x:Int) / 4294967296)] 201)) w.heap.size [x % 4294967296,x / 4294967296]:=by
  rw[b,c];exact Blk.new .u32 201 w [x % 4294967296,x / 4294967296]
 clear b c;refine(Qa2 w.heap.size 2 2 x [x % 4294967296,x / 4294967296] _ hB rfl ?_ lZ (by omega) (Qnp x)).mono ?_
 .
  intro d h;simp at h;omega
 rintro e j ⟨⟨a,cap,r,rfl,f⟩,rfl⟩;go_wp2;go_ret;exact⟨⟨a,cap,r,rfl,f,f.num.length_le_of_lt (by omega) (by omega)⟩,bR.alloc lZ _⟩
theorem Qdw(a:Vx)(cap:Nat)(l:Vy)(x:Nat)(w:Vz)(h:U32 w a cap l x):
 Calls prog 155 #[.slice a l.length cap] w fun e w'=>(∃a cap,e=.returned (.slice a l.length cap)/\U32 w' a cap l x)/\Bl w w':=by
 obtain⟨s,t,o,p,hz2⟩:=info_parts Tryz.info32;have hs:=h.short;rcases h.row.shape with ⟨rfl,rfl⟩|⟨b,g,rfl,C⟩
 .
  have hl:=h.row.fit;have:l= []:=List.length_eq_zero_iff.1 (by omega);subst this;go_enter func155,ntmps155;go_wp2_with (at_builtin;refine wpList_append_own_none rfl _ _ 120 rfl w.heap.size 201 s 1 underlying120 t _ 0 [] rfl (World.ownsRow_nil _ _ _ _) rfl ?_);go_ret;exact⟨⟨none,0,rfl,h⟩,Below.refl _ _⟩
 .
  go_enter func155,ntmps155;go_wp2_with (at_builtin;refine wpList_append_own _ rfl _ _ 120 rfl w.heap.size 201 s (.int .u32 0) 1 4 underlying120 t o p hz2 rfl (by decide) _ 0 [] rfl (World.ownsRow_nil _ _ _ _) ⟨b,g,none⟩ l.length cap (l.map (fun n:Nat=>Value.int .u32 n)) rfl (by simp) ?c1 ?c2 ?c3 ?c4 lZ ?_)
  case c1=>
   intro j u v;obtain⟨q,r⟩:=gZ v;have c:j<l.length:=by simpa using q
   obtain⟨y,i,z,_,A⟩:=h.row.cell j c;obtain⟨rfl,rfl⟩:b=y/\g=i:=by simpa using z
   rw[Qau,A,<-r];simp[c]
  case c2=>intro u r;obtain⟨n,_,rfl⟩:=List.mem_map.1 r;rfl
  case c3=>unfold maxLen;omega
  case c4=>omega
  .
   intro D E d f _;obtain⟨B,cap',rfl,m⟩:=Qno d;clear d;go_wp2;go_ret;exact⟨⟨B,cap',rfl,m,h.num,hs⟩,bR.grown f lZ (fun k hk=>by simp[Value.ownBlock] at hk)⟩
theorem or64(x y:Int)(a b i:Nat)(c:x=((2 ^ i*a:Nat):Int))(d:y=(b:Int))(e:b<2 ^ i)(hs:2 ^ i*a+b<18446744073709551616):bits .or .u64 x y=((2 ^ i*a+b:Nat):Int):=by
 subst c;subst d;rw[u64_or_nat _ _ (by omega) (by omega),Nat.two_pow_add_eq_or_of_lt e]
theorem or64'(x y:Int)(a b i:Nat)(c:x=((2 ^ i*a:Nat):Int))(d:y=(b:Int))(e:b<2 ^ i)(hs:2 ^ i*a+b<18446744073709551616):bits .or .u64 y x=((2 ^ i*a+b:Nat):Int):=by
 subst c;subst d;rw[u64_or_nat _ _ (by omega) (by omega),Nat.or_comm,Nat.two_pow_add_eq_or_of_lt e]
theorem or32'(x y:Int)(a b i:Nat)(c:x=((2 ^ i*a:Nat):Int))(d:y=(b:Int))(e:b<2 ^ i)(hs:2 ^ i*a+b<4294967296):bits .or .u32 y x=((2 ^ i*a+b:Nat):Int):=by
 subst c;subst d;rw[u32_or_nat _ _ (by omega) (by omega),Nat.or_comm,Nat.two_pow_add_eq_or_of_lt e]
theorem Qhu(t:Nat)(h:0<t):nb (t / 2)+1=nb t:=by
 unfold nb;by_cases a:t=1
 · subst a;rfl
 ·
  rw[if_neg (by omega),if_neg (by omega)];have:t.log2=(t / 2).log2+1:=by
   rw[Nat.log2_def,if_pos (by omega)]
  omega
theorem Qnq(k b a:Nat)(h:b<2 ^ k)(c:0<a):nb (b+2 ^ k*a)=k+nb a:=by
 have e:=Qfg a;have f:nb (b+2 ^ k*a)≤k+nb a:=by
  apply nb_le;rw[Nat.pow_add];have:=Nat.mul_le_mul_left (2 ^ k) (show a+1≤2 ^ nb a by omega);rw[Nat.mul_add] at this;omega
 have g:k+nb a≤nb (b+2 ^ k*a):=by
  have d:2 ^ (nb a - 1)≤a:=Qib (by have:=Qdy c;omega);have i:2 ^ (k+(nb a - 1))≤b+2 ^ k*a:=by
   rw[Nat.pow_add];have:=Nat.mul_le_mul_left (2 ^ k) d;omega
  apply Classical.byContradiction;intro j;have l:=Qfg (b+2 ^ k*a);have m:2 ^ nb (b+2 ^ k*a)≤2 ^ (k+(nb a - 1)):=Nat.pow_le_pow_right (by omega) (by omega);omega
 omega
theorem Num.nb_eq{q:Nat}{l:List Nat}{n:Nat}(h:Num (2 ^ q) l n)(hl:0<l.length):nb n=q*(l.length - 1)+nb (l.getD (l.length - 1) 0):=by
 have c:0<l.getD (l.length - 1) 0:=by
  rcases h.trim with rfl|d
  · simp at hl
  · omega
 have e:=Qah (2 ^ q) l (l.length - 1) (by omega);have a:=Qam (2 ^ q) l (l.length - 1) (by omega);rw[show l.length - 1+1=l.length from by omega,List.drop_of_length_le (Nat.le_refl _)] at a;simp only[val,Nat.mul_zero,Nat.add_zero] at a;rw[h.eq,a,←Nat.pow_mul] at e;have b:=Qaa (Nat.pow_pos (by omega)) (h.small.take (l.length - 1));rw[List.length_take,Nat.min_eq_left (by omega),←Nat.pow_mul] at b;rw[e,Qnq _ _ _ b c]
theorem Qhv(B j d e r:Nat)(rs l:List Nat)(a:j<rs.length)(hl:j<l.length)(b:l.getD j 0=e)(h:val B (rs.drop (j+1))*d+r=val B (l.drop (j+1))):
 val B ((rs.set j ((B*r+e) / d)).drop j)*d+(B*r+e) % d=val B (l.drop j):=by
 rw[Qam B l j hl,b,←h,Qc0 _ j (by simp;omega),Qbt,List.drop_set_of_lt (by omega),List.getD_eq_getElem?_getD,List.getElem?_set_self a];have c:=Nat.div_add_mod (B*r+e) d;simp only[Option.getD_some,Nat.add_mul];rw[Nat.mul_comm d] at c;rw[Nat.mul_add,Nat.mul_assoc];omega
theorem Qe5{s:Nat}(hs:s<32):2 ^ s≤2147483648:=by
 have:=Nat.pow_le_pow_right (n:=2) (by omega) (show s≤31 by omega);exact this
theorem Qe6{s:Nat}(hs:s≤32):2 ^ s*2 ^ (32 - s)=4294967296:=by
 rw[←Nat.pow_add,show s+(32 - s)=32 from by omega]
theorem Qdx(d s:Nat)(hs:s≤32):d*2 ^ s % 4294967296=2 ^ s*(d % 2 ^ (32 - s)):=by
 rw[←Qe6 hs,Nat.mul_comm d,Nat.mul_mod_mul_left]
theorem Qnr(d s:Nat)(hs:s≤32):d*2 ^ s % 4294967296+2 ^ s≤4294967296:=by
 rw[Qdx d s hs];have a:d % 2 ^ (32 - s)+1≤2 ^ (32 - s):=Nat.mod_lt _ (Nat.pow_pos (by omega));have b:=Nat.mul_le_mul_left (2 ^ s) a;rw[Qe6 hs,Nat.mul_add] at b;omega
theorem Qb8(n:Nat)(h:n<18446744073709551616):IntKind.u64.wrap (n:Int)=(n:Int):=by
 simp[IntKind.wrap,IntKind.signed,IntKind.bits];omega
theorem Qns(d s z:Nat)(hs:s<32)(a:d<4294967296)(b:z<2 ^ s):
 bits .or .u32 (z:Int) (IntKind.u64.wrap ((d:Int)*2 ^ (s % 32)) % 4294967296)=((d*2 ^ s % 4294967296+z:Nat):Int)∧
 bits .or .u32 0 (IntKind.u64.wrap ((d:Int)*2 ^ (s % 32)) / 4294967296 % 4294967296)=((d*2 ^ s / 4294967296:Nat):Int)∧
 d*2 ^ s % 4294967296+z<4294967296∧d*2 ^ s / 4294967296<2 ^ s:=by
 have c:=Qe5 hs;have g:d*2 ^ s≤4294967295*2147483648:=Nat.mul_le_mul (by omega) c;have h:=Qnr d s (by omega);have e:d*2 ^ s / 4294967296<2 ^ s:=by
  rw[Nat.div_lt_iff_lt_mul (by omega),Nat.mul_comm (2 ^ s)];exact Nat.mul_lt_mul_of_pos_right a (Nat.pow_pos (by omega))
 have f:IntKind.u64.wrap ((d:Int)*2 ^ (s % 32))=((d*2 ^ s:Nat):Int):=by
  rw[Nat.mod_eq_of_lt hs];have:((d:Int)*2 ^ s)=((d*2 ^ s:Nat):Int):=by simp
  rw[this,Qb8 _ (by omega)]
 rw[f];refine⟨?_,?_,by omega,e⟩
 · rw[or32' (((d*2 ^ s:Nat):Int) % 4294967296) (z:Int) (d % 2 ^ (32 - s)) z s (by rw[←Qdx d s (by omega)];omega) rfl b (by rw[←Qdx d s (by omega)];omega),←Qdx d s (by omega)]
 ·
  rw[show (((d*2 ^ s:Nat):Int) / 4294967296 % 4294967296)=((d*2 ^ s / 4294967296:Nat):Int) from by omega];have:=u32_or_nat 0 (d*2 ^ s / 4294967296) (by omega) (by omega);rw[Nat.zero_or] at this;exact this
theorem Qnt(k d s z:Nat)(rs l:List Nat)(hk:k+1<rs.length)(a:l.getD k 0=d)(b:rs.getD k 0=z)(h:val 4294967296 (rs.take (k+1))=val 4294967296 (l.take k)*2 ^ s):
 val 4294967296 (((rs.set k (d*2 ^ s % 4294967296+z)).set (k+1) (d*2 ^ s / 4294967296)).take (k+1+1))=val 4294967296 (l.take (k+1))*2 ^ s:=by
 rw[take_set _ _ _ (by simp;omega),Qak,List.length_take,Nat.min_eq_left (by simp;omega),take_set _ _ _ (by omega),Qak,List.length_take,Nat.min_eq_left (by omega)];rw[Qac,b] at h;rw[Qac _ l,a,Nat.add_mul,←h,Nat.pow_succ,Nat.mul_add,Nat.mul_assoc (4294967296 ^ k) d];have e:=Nat.mod_add_div (d*2 ^ s) 4294967296;have c:4294967296 ^ k*(d*2 ^ s % 4294967296+4294967296*(d*2 ^ s / 4294967296))=4294967296 ^ k*(d*2 ^ s):=by rw[e]
 rw[Nat.mul_add,←Nat.mul_assoc] at c;omega
theorem Qnu(d e s:Nat)(hs:s<32)(k:d<4294967296):((4294967296*e+d) / 2 ^ s % 4294967296)*2 ^ s+d % 2 ^ s=d+4294967296*(e % 2 ^ s):=by
 have b:0<2 ^ s:=Nat.pow_pos (by omega);have a:=Qe6 (s:=s) (by omega);generalize hP:2 ^ s=p at*;generalize hT:2 ^ (32 - s)=t at*;have c:(4294967296*e+d) / p=t*e+d / p:=by
  rw[←a,Nat.mul_assoc,Nat.mul_add_div b]
 have f:=Nat.div_add_mod e p;have g:t*e=4294967296*(e / p)+t*(e % p):=by
  conv=>lhs;rw[←f]
  rw[Nat.mul_add,←Nat.mul_assoc,Nat.mul_comm t p,a]
 have l:d / p<t:=by rw[Nat.div_lt_iff_lt_mul b,Nat.mul_comm];omega
 have h:e % p+1≤p:=Nat.mod_lt _ b;have i:=Nat.mul_le_mul_left t h;rw[Nat.mul_add,Nat.mul_comm t p,a] at i;rw[c,g,Nat.add_assoc,Nat.mul_add_mod,Nat.mod_eq_of_lt (by omega),Nat.add_mul];have j:=Nat.div_add_mod d p;rw[Nat.mul_comm p] at j;have m:t*(e % p)*p=4294967296*(e % p):=by
  rw[Nat.mul_comm (t*(e % p)) p,←Nat.mul_assoc,a]
 omega
theorem Qhw(k d e s b:Nat)(rs l:List Nat)(hs:s<32)(a:d<4294967296)(hk:k<rs.length)(c:l.getD k 0=d)(f:l.getD (k+1) 0=e)
 (h:val 4294967296 (rs.take k)*2 ^ s+b=val 4294967296 (l.take k)+4294967296 ^ k*(l.getD k 0 % 2 ^ s)):
 val 4294967296 ((rs.set k ((4294967296*e+d) / 2 ^ s % 4294967296)).take (k+1))*2 ^ s+b=val 4294967296 (l.take (k+1))+4294967296 ^ (k+1)*(l.getD (k+1) 0 % 2 ^ s):=by
 have g:=Qnu d e s hs a;rw[take_set _ _ _ hk,Qak,List.length_take,Nat.min_eq_left (by omega),Qac _ l,c,f,Nat.add_mul,Nat.pow_succ];rw[c] at h;have i:4294967296 ^ k*(((4294967296*e+d) / 2 ^ s % 4294967296)*2 ^ s+d % 2 ^ s)=4294967296 ^ k*(d+4294967296*(e % 2 ^ s)):=by rw[g]
 rw[Nat.mul_add,Nat.mul_add,←Nat.mul_assoc,←Nat.mul_assoc] at i;omega
theorem Qhx(v s:Nat)(hs:s<32):(v:Int) / 2 ^ (s % 32) % 4294967296=((v / 2 ^ s % 4294967296:Nat):Int):=by
 rw[Nat.mod_eq_of_lt hs];simp
theorem Qb7(a:Vx)(cap:Nat)(l:Vy)(x:Nat)(w:Vz)(h:U32 w a cap l x)(hl:l.length<=2):
 Calls prog 184 #[.slice a l.length cap] w fun e w'=>e=.returned (.int .u64 x)/\w'=w:=by
 have c:=h.num.eq
 match l,hl,h,c with
 | [],_,h,c=>
   simp only[val] at c;subst c;go_enter func184,ntmps184;go_wp2;go_ret;exact⟨rfl,rfl⟩
 | [d],_,h,c=>
   obtain⟨b,g,rfl,j,f⟩:=h.row.cell 0 (by simp);have m:d<4294967296:=h.num.small d (by simp);simp[val] at c f;subst c;clear h;go_enter func184,ntmps184;go_wp2;go_ret;exact⟨rfl,rfl⟩
 | [d,e],_,h,c=>
   obtain⟨b,g,rfl,j,f⟩:=h.row.cell 0 (by simp);obtain⟨o,i,n,p,k⟩:=h.row.cell 1 (by simp);obtain⟨rfl,rfl⟩:b=o/\g=i:=by simpa using n
   have m:d<4294967296:=h.num.small d (by simp);have r:e<4294967296:=h.num.small e (by simp);simp[val] at c f k;have s:O (d+4294967296*e=x):=c;have q:bits .or .u64 (d:Int) ((e:Int)*4294967296)=(x:Int):=by
    rw[or64' ((e:Int)*4294967296) (d:Int) e d 32 (by omega) rfl m (by omega)];omega
   clear h n c;go_enter func184,ntmps184;go_wp2;go_ret;exact⟨rfl,rfl⟩
theorem Qnj(a:Vx)(cap d:Nat)(l:Vy)(x:Nat)(w:Vz)(h:U32 w a cap l x)(f:0<d)(hd:d<4294967296):
 Calls prog 175 #[.slice a l.length cap,.int .u32 d] w fun e w'=>(∃a cap r,e=.returned (.tuple #[.slice a r.length cap,.int .u32 (x % d:Nat)])/\U32 w' a cap r (x / d))/\Bl w w':=by
 have s1:=h.short;have C:∀w,(Instr.makeSlice 120 (.int .i64 (l.length:Int)) (.int .i64 (l.length:Int))).run prog w=.ok (.slice (some ⟨w.heap.size,0,none⟩) l.length l.length) (w.alloc (.cells (wordCells .u32 (zeros l.length)) 201)):=
  fun w=>Qa6 _ l.length rfl (by omega) w
 go_enter func175,ntmps175;go_wp2;clear C;go_loopw [7,8] (fun r i wr=>∃(k c:Nat) (rs:Vy),k<=l.length/\c<d/\r=.int .u64 c/\i=.int .i64 ((k:Int) - 1)/\Blk .u32 201 wr w.heap.size rs/\rs.length=l.length/\Small 4294967296 rs/\
  val 4294967296 (rs.drop k)*d+c=val 4294967296 (l.drop k)/\Bl w wr) (fun _ i _=>(intOf i+1).toNat)
 case atStart=>exact⟨l.length,0,zeros l.length,Nat.le_refl _,f,rfl,rfl,Blk.new _ _ _ _,Qaf _,Qal _ _ (by omega),by rw[List.drop_of_length_le (by rw[Qaf];exact Nat.le_refl _),List.drop_of_length_le lZ];simp[val],bR.alloc lZ _⟩
 case round=>
  obtain⟨k,r,rs,hk,J,rfl,rfl,hB,m,v,K,D⟩:=hrel;have L:O (val 4294967296 (rs.drop k)*d+r=val 4294967296 (l.drop k)):=K;have n:O (rs.length=l.length):=m;have M:O (Blk .u32 201 wr w.heap.size rs):=hB;have y:O (Small 4294967296 rs):=v;clear K v;by_cases S:k=0
  .
   subst S;have A:=L.o;simp only[List.drop_zero,h.num.eq] at A;have p:val 4294967296 rs=x / d:=by
    rw[<-A,Nat.mul_comm,Nat.mul_add_div f,Nat.div_eq_of_lt J,Nat.add_zero]
   have N:x % d=r:=by
    rw[<-A,Nat.mul_comm,Nat.mul_add_mod,Nat.mod_eq_of_lt J]
   have T:O (x % d=r):=N;clear m hB A N;have U:O (val 4294967296 rs=x / d):=p;clear p;go_wp2_with fail;refine(Qa2 w.heap.size l.length l.length (x / d) rs _ M.o n.o y.o lZ (by omega) U.o).mono ?_;rintro e w1 ⟨⟨a,cap,r,rfl,V⟩,rfl⟩;go_wp2;go_ret2;exact⟨⟨a,cap,r,by rw[T.o];rfl,V⟩,D⟩
  .
   obtain⟨j,rfl⟩:∃j,k=j+1:=⟨k - 1,by omega⟩;obtain⟨b,W,rfl,E,t⟩:=h.row.cell j (by omega);obtain⟨e,B⟩:=nm (l.getD j 0);have F:e<4294967296:=by rw[<-B];exact h.num.small.getD (by omega) j
   rw[B] at t;have P:=ce D E t;have X:O (l.getD j 0=e):=B;obtain⟨z,Q⟩:=nm (rs.getD j 0);have g1:=hB.free j;have Y:=hB.cell j (by omega);rw[Q] at Y;clear B t Q hB m;have R:((j+1:Nat):Int) - 1=(j:Int):=by omega
   rw[R];clear R;have Z:((d:Int) == 0)=false:=by rw[beq_eq_false_iff_ne];omega
   obtain⟨s,hs⟩:=nm (4294967296*r+e);have aa:bits .or .u64 ((r:Int)*4294967296) (e:Int)=(s:Int):=by
    rw[or64 ((r:Int)*4294967296) (e:Int) r e 32 (by omega) rfl F (by omega)];omega
   obtain⟨q,p⟩:=nm (s / d);obtain⟨c,g⟩:∃c,s % d=c:=⟨_,rfl⟩;have G:q<4294967296:=by
    rw[<-p,Nat.div_lt_iff_lt_mul f];have:=Nat.mul_le_mul_left 4294967296 (show r+1<=d by omega);omega
   have H:c<d:=by rw[<-g];exact Nat.mod_lt _ f
   have u:=Qhv 4294967296 j d e r rs l (by have:=n.o;omega) (by omega) X.o L.o;rw[hs,p,g] at u;have t1:(s:Int) / (d:Int)=(q:Int):=by rw[<-p];simp
   have t2:(s:Int) % (d:Int)=(c:Int):=by rw[<-g];simp
   have ab:s<18446744073709551616:=by omega
   have I:O (val 4294967296 ((rs.set j q).drop j)*d+c=val 4294967296 (l.drop j)):=u;clear p g u hs;go_wp2;go_roundw
   case rel=>exact⟨j,c,rs.set j q,by omega,H,by rw[t2],rfl,M.o.set j q,by rw[List.length_set];exact n.o,y.o.set j G,I.o,D.setCell lZ _⟩
   case measure=>simp[intOf]
theorem Qnk(a:Vx)(cap:Nat)(l:Vy)(x:Nat)(w:Vz)(h:U32 w a cap l x):
 Calls prog 185 #[.slice a l.length cap] w fun e w'=>e=.returned (.int .i64 (nb x))/\w'=w:=by
 have B:=h.short;by_cases g:l.length=0
 .
  have C:x=0:=(h.num.len_zero (by omega)).2 g;have r:((l.length:Int) == 0)=true:=by simp[g]
  subst C;clear g;go_enter func185,ntmps185;go_wp2;go_ret;exact⟨rfl,rfl⟩
 .
  have r:((l.length:Int) == 0)=false:=by rw[beq_eq_false_iff_ne];omega
  have c:=Num.nb_eq (q:=32) h.num (by omega);obtain⟨b,D,rfl,E,d⟩:=h.row.cell (l.length - 1) (by omega);obtain⟨t,i⟩:=nm (l.getD (l.length - 1) 0);have k:t<4294967296:=by rw[<-i];exact h.num.small.getD (by omega) _
  have F:nb t<=32:=nb_le (by omega);rw[i] at d c;have p:O (nb x=32*(l.length - 1)+nb t):=c;clear i c;obtain⟨j,s⟩:∃j,l.length=j+1:=⟨l.length - 1,by omega⟩;rw[s] at d p r B ⊢;clear s g;simp only[Nat.add_sub_cancel] at d p;go_enter func185,ntmps185;go_wp2;go_loop [3,4] (fun n v=>∃m u:Nat,nb u+m=nb t/\u<4294967296/\n=.int .i64 m/\v=.int .u32 u) (fun n v=>nb (intOf v).toNat)
  case atStart=>exact⟨0,t,rfl,k,rfl,rfl⟩
  case round=>
   obtain⟨m,u,f,G,rfl,rfl⟩:=hrel;have y:O (nb u+m=nb t):=f;have z:m<=32:=by omega
   clear f;by_cases H:u=0
   .
    subst H;have I:(((0:Nat):Int) != 0)=false:=by simp
    go_wp2;go_ret;refine⟨?_,rfl⟩;have A:=y.o;have J:=p.o;rw[Qoo] at A;exact congrArg (fun n:Int=>Ending.returned (.int .i64 n)) (by omega)
   .
    have I:((u:Int) != 0)=true:=by rw[bne_iff_ne];omega
    go_wp2;go_round
    case rel=>exact⟨m+1,u / 2,by have:=Qhu u (by omega);have:=y.o;omega,by omega,by go_num,congrArg (Value.int IntKind.u32) (by omega)⟩
    case measure=>
     have A:=Qhu u (by omega)
     show nb (((u:Int) / 2).toNat)<nb ((u:Int).toNat)
     rw[show ((u:Int) / 2).toNat=u / 2 from by omega,Int.toNat_natCast];omega
end Go.Proofs.YtppkmifkpjkgpaaGreatDoor
