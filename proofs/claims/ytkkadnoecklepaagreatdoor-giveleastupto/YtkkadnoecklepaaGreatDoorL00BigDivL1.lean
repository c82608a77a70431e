import Derived.Test.YtkkadnoecklepaaGreatDoorChecked
import Derived.WalkKit
import Derived.Below
import Derived.OwnWalk
import Derived.Outline
import Derived.Deep.OwnRows
import Derived.RegionTactic
import Derived.ChangeAlike
import Derived.Laws.AppendOwnNone
import Derived.Laws.BitsAllLaws
import Derived.Laws.CopyOwn
import Derived.Deep.RegionWith
import Derived.LoopN
import Derived.Deep.QuietTactic
import Derived.BigQuiet
namespace Go.Proofs.YtkkadnoecklepaaGreatDoor
set_option linter.unusedSimpArgs false
set_option linter.unusedVariables false
set_option maxHeartbeats 8000000
set_option maxRecDepth 1000000
def val(B:Nat):List Nat→Nat
 | []=>0
 |d :: l=>d+B*val B l
theorem Qcx(B:Nat):val B []=0:=rfl
theorem Qbh(B d:Nat)(l:List Nat):val B (d :: l)=d+B*val B l:=rfl
theorem Qcy(B:Nat)(l m:List Nat):val B (l++m)=val B l+B ^ l.length*val B m:=by
 induction l with
 |nil=>simp[val]
 |cons d l a=>
  simp only[List.cons_append,val,a,List.length_cons,Nat.pow_succ,Nat.mul_add,Nat.add_assoc];rw[Nat.mul_comm (B ^ l.length) B,Nat.mul_assoc]
theorem Qal(B:Nat)(l:List Nat)(d:Nat):val B (l++ [d])=val B l+B ^ l.length*d:=by
 rw[Qcy];simp[val]
def Small(B:Nat)(l:List Nat):Prop:=∀d,d∈ l→d<B
theorem Small.nil(B:Nat):Small B []:=fun d h=>by cases h
theorem Small.append{B:Nat}{l m:List Nat}(h:Small B l)(k:Small B m):Small B (l++m):=fun d b=>by
 rcases List.mem_append.1 b with a|a
 · exact h d a
 · exact k d a
theorem Small.take{B:Nat}{l:List Nat}(h:Small B l)(n:Nat):Small B (l.take n):=fun d a=>h d (List.mem_of_mem_take a)
theorem Small.drop{B:Nat}{l:List Nat}(h:Small B l)(n:Nat):Small B (l.drop n):=fun d a=>h d (List.mem_of_mem_drop a)
theorem Small.set{B:Nat}{l:List Nat}(h:Small B l)(i:Nat){d:Nat}(k:d<B):Small B (l.set i d):=fun e b=>by
 rcases List.mem_or_eq_of_mem_set b with a|a
 · exact h e a
 · subst a;exact k
theorem Small.getD{B:Nat}{l:List Nat}(h:Small B l)(hB:0<B)(i:Nat):l.getD i 0<B:=by
 by_cases a:i<l.length
 · rw[List.getD_eq_getElem?_getD,List.getElem?_eq_getElem a]
   exact h _ (List.getElem_mem a)
 · rw[List.getD_eq_getElem?_getD,List.getElem?_eq_none (by omega)]
   exact hB
theorem Small.replicate(B n:Nat)(hB:0<B):Small B (List.replicate n 0):=fun d a=>by
 have:=List.eq_of_mem_replicate a;omega
theorem Qab{B:Nat}{l:List Nat}(hB:0<B)(h:Small B l):val B l<B ^ l.length:=by
 induction l with
 |nil=>simp[val]
 |cons d l a=>
  have b:=a (fun e c=>h e (List.mem_cons_of_mem _ c));have g:=h d (List.mem_cons_self ..);simp only[val,List.length_cons,Nat.pow_succ];rw[Nat.mul_comm (B ^ l.length) B];have f:B*(val B l+1)≤B*B ^ l.length:=Nat.mul_le_mul_left B b;rw[Nat.mul_add] at f;omega
theorem Qon(B n:Nat):val B (List.replicate n 0)=0:=by
 induction n with
 |zero=>rfl
 |succ n a=>simp[List.replicate_succ,val,a]
theorem Qbv(B:Nat)(l:List Nat)(k:Nat)(h:k<l.length):val B (l.take (k+1))=val B (l.take k)+B ^ k*l.getD k 0:=by
 rw[List.take_succ_eq_append_getElem h,Qal,List.length_take,Nat.min_eq_left (by omega),List.getD_eq_getElem?_getD,List.getElem?_eq_getElem h];rfl
theorem Qa6(B:Nat)(l:List Nat)(k:Nat)(h:l.length≤k):val B (l.take k)=val B l:=by
 rw[List.take_of_length_le h]
theorem Qae(B:Nat)(l:List Nat)(k:Nat):val B (l.take (k+1))=val B (l.take k)+B ^ k*l.getD k 0:=by
 by_cases h:k<l.length
 · exact Qbv B l k h
 · rw[Qa6 _ _ _ (by omega),Qa6 _ _ _ (by omega),List.getD_eq_getElem?_getD,List.getElem?_eq_none (by omega)]
   simp
theorem Qak(B:Nat)(l:List Nat)(k:Nat)(h:k≤l.length):val B l=val B (l.take k)+B ^ k*val B (l.drop k):=by
 conv=>lhs;rw[←List.take_append_drop k l]
 rw[Qcy,List.length_take,Nat.min_eq_left h]
theorem Qcz(l:List Nat)(k:Nat)(h:k<l.length):l.drop k=l.getD k 0 :: l.drop (k+1):=by
 rw[List.drop_eq_getElem_cons h,List.getD_eq_getElem?_getD,List.getElem?_eq_getElem h];rfl
theorem Qao(B:Nat)(l:List Nat)(k:Nat)(h:k<l.length):val B (l.drop k)=l.getD k 0+B*val B (l.drop (k+1)):=by
 rw[Qcz l k h,Qbh]
theorem take_set(l:List Nat)(k d:Nat)(h:k<l.length):(l.set k d).take (k+1)=l.take k++ [d]:=by
 rw[List.take_succ_eq_append_getElem (by simpa using h),List.take_set_of_le (Nat.le_refl _)];simp
def Trim(l:List Nat):Prop:=l= []∨l.getD (l.length - 1) 0≠0
theorem Trim.pow_le{B:Nat}{l:List Nat}(h:Trim l)(hl:0<l.length):B ^ (l.length - 1)≤val B l:=by
 rcases h with rfl|h
 · simp at hl
 ·
  have e:=Qak B l (l.length - 1) (by omega);have a:=Qao B l (l.length - 1) (by omega);rw[e,a];have b:1≤l.getD (l.length - 1) 0+B*val B (l.drop (l.length - 1+1)):=by omega
  have:=Nat.mul_le_mul_left (B ^ (l.length - 1)) b;omega
theorem Qoo{B:Nat}{l:List Nat}(hB:0<B)(h:Trim l):val B l=0↔l= []:=by
 constructor
 ·
  intro e;by_cases hl:0<l.length
  ·
   have a:=h.pow_le (B:=B) hl;have b:0<B ^ (l.length - 1):=Nat.pow_pos hB;omega
  · exact List.eq_nil_of_length_eq_zero (by omega)
 · rintro rfl;rfl
theorem Qcf{B:Nat}(hB:0<B){m n:Nat}(h:m≤n):B ^ m≤B ^ n:=Nat.pow_le_pow_right hB h
theorem Qat{B:Nat}{l m:List Nat}(hB:0<B)(hl:Small B l)(a:Trim m)(h:l.length<m.length):val B l<val B m:=by
 have b:=Qab hB hl;have c:=a.pow_le (B:=B) (by omega);have d:=Qcf hB (show l.length≤m.length - 1 by omega);omega
theorem Qh2{B:Nat}{d:Nat}{x:Nat}(h:d<B):(d+B*x) % B=d:=by
 rw[Nat.add_mul_mod_self_left,Nat.mod_eq_of_lt h]
theorem Qh3{B:Nat}{d:Nat}{x:Nat}(h:d<B):(d+B*x) / B=x:=by
 rw[Nat.add_mul_div_left _ _ (by omega),Nat.div_eq_of_lt h,Nat.zero_add]
theorem Qh4{B:Nat}:∀{l m:List Nat},Small B l→Small B m→l.length=m.length→val B l=val B m→l=m
 | [],[],_,_,_,_=>rfl
 | [],_ :: _,_,_,h,_=>by simp at h
 |_ :: _,[],_,_,h,_=>by simp at h
 |d :: l,e :: m,h1,h2,h3,h4=>by
  have b:=h1 d (List.mem_cons_self ..);have c:=h2 e (List.mem_cons_self ..);simp only[val] at h4;have f:d=e:=by rw[←Qh2 (x:=val B l) b,←Qh2 (x:=val B m) c,h4]
  have g:val B l=val B m:=by rw[←Qh3 (x:=val B l) b,←Qh3 (x:=val B m) c,h4]
  rw[f,Qh4 (fun x a=>h1 x (List.mem_cons_of_mem _ a)) (fun x a=>h2 x (List.mem_cons_of_mem _ a)) (by simpa using h3) g]
structure Num (B:Nat) (l:List Nat) (n:Nat):Prop where
 small:Small B l
 trim:Trim l
 eq:val B l=n
theorem Num.inj{B:Nat}{l m:List Nat}{n:Nat}(hB:0<B)(h:Num B l n)(k:Num B m n):l=m:=by
 have e:l.length=m.length:=by
  rcases Nat.lt_trichotomy l.length m.length with a|a|a
  · have:=Qat hB h.small k.trim a;have:=h.eq;have:=k.eq;omega
  · exact a
  · have:=Qat hB k.small h.trim a;have:=h.eq;have:=k.eq;omega
 exact Qh4 h.small k.small e (h.eq.trans k.eq.symm)
theorem Num.zero(B:Nat):Num B [] 0:=⟨Small.nil B,.inl rfl,rfl⟩
theorem Num.nil_iff{B:Nat}{l:List Nat}{n:Nat}(hB:0<B)(h:Num B l n):n=0↔l= []:=by
 rw[←h.eq];exact Qoo hB h.trim
theorem Num.len_zero{B:Nat}{l:List Nat}{n:Nat}(hB:0<B)(h:Num B l n):n=0↔l.length=0:=by
 rw[h.nil_iff hB];exact List.length_eq_zero_iff.symm
theorem Num.length_le_of_lt{B:Nat}{l:List Nat}{n k:Nat}(hB:0<B)(h:Num B l n)(b:n<B ^ k):l.length≤k:=by
 apply Classical.byContradiction;intro c;have a:=h.trim.pow_le (B:=B) (by omega);have d:=Qcf hB (show k≤l.length - 1 by omega);rw[h.eq] at a;omega
def nb(n:Nat):Nat:=if n=0 then 0 else n.log2+1
theorem Qfr(n:Nat):n<2 ^ nb n:=by
 unfold nb
 split
 · omega
 · exact Nat.lt_log2_self
theorem nb_le{n k:Nat}(h:n<2 ^ k):nb n≤k:=by
 unfold nb
 split
 · omega
 · rename_i a
   exact(Nat.log2_lt a).2 h
theorem Qop:nb 0=0:=rfl
theorem Qdw{n:Nat}(h:0<n):1≤nb n:=by unfold nb;rw[if_neg (by omega)];omega
theorem Qh5{n k:Nat}(h:k<nb n):2 ^ k≤n:=by
 apply Classical.byContradiction;intro a;have:=nb_le (n:=n) (k:=k) (by omega);omega
theorem Num.nb_le{q:Nat}{l:List Nat}{n:Nat}(h:Num (2 ^ q) l n):nb n≤q*l.length:=by
 apply Go.Proofs.YtkkadnoecklepaaGreatDoor.nb_le;have:=Qab (Nat.pow_pos (by omega)) h.small;rw[h.eq,←Nat.pow_mul] at this;exact this
def cmp3(x y:Nat):Int:=if x<y then -1 else if x=y then 0 else 1
theorem Qc0{x y:Nat}(h:x<y):cmp3 x y= -1:=by unfold cmp3;rw[if_pos h]
theorem Qh6{x y:Nat}(h:x=y):cmp3 x y=0:=by unfold cmp3;rw[if_neg (by omega),if_pos h]
theorem Qdx{x y:Nat}(h:y<x):cmp3 x y=1:=by unfold cmp3;rw[if_neg (by omega),if_neg (by omega)]
theorem Qau(x y:Nat):cmp3 x y<0↔x<y:=by
 unfold cmp3
 split
 · simp;assumption
 · split<;>simp<;>omega
theorem Qoq(x y:Nat): -1≤cmp3 x y∧cmp3 x y≤1:=by
 unfold cmp3
 split
 · omega
 · split<;>omega
theorem Qdy{B:Nat}(hB:0<B){l m:List Nat}(hl:Small B l)(j:Nat)(a:j<l.length)(b:j<m.length)(c:l.drop (j+1)=m.drop (j+1))(h:l.getD j 0<m.getD j 0):val B l<val B m:=by
 rw[Qak B l j (by omega),Qak B m j (by omega),Qao B l j a,Qao B m j b,c];have d:=Qab hB (hl.take j);rw[List.length_take,Nat.min_eq_left (by omega)] at d;have e:B ^ j*(l.getD j 0+B*val B (m.drop (j+1))+1)≤B ^ j*(m.getD j 0+B*val B (m.drop (j+1))):=Nat.mul_le_mul_left _ (by omega);rw[Nat.mul_add _ _ 1] at e;omega
theorem Qh7{l m:List Nat}{j:Nat}(a:j<l.length)(b:j<m.length)(c:l.drop (j+1)=m.drop (j+1))(h:l.getD j 0=m.getD j 0):l.drop j=m.drop j:=by
 rw[Qcz l j a,Qcz m j b,c,h]
theorem Qor(B k c t R:Nat)(rs:List Nat)(hk:k<rs.length)(h:val B (rs.take k)+B ^ k*c=R):
 val B ((rs.set k ((c+t) % B)).take (k+1))+B ^ (k+1)*((c+t) / B)=R+B ^ k*t:=by
 rw[take_set _ _ _ hk,Qal,List.length_take,Nat.min_eq_left (by omega),Nat.pow_succ];have e:=Nat.mod_add_div (c+t) B;have a:B ^ k*((c+t) % B+B*((c+t) / B))=B ^ k*(c+t):=by rw[e]
 rw[Nat.mul_add,Nat.mul_add,←Nat.mul_assoc] at a;omega
theorem Qbw(l:List Nat)(k:Nat)(h:l.length≤k):l.getD k 0=0:=by
 rw[List.getD_eq_getElem?_getD,List.getElem?_eq_none h];rfl
theorem Qfs(B:Nat)(rs:List Nat)(n c:Nat)(h:rs.length=n+1):val B (rs.set n c)=val B (rs.take n)+B ^ n*c:=by
 rw[←Qa6 B (rs.set n c) (n+1) (by simp;omega),take_set _ _ _ (by omega),Qal,List.length_take,Nat.min_eq_left (by omega)]
theorem Qdz(k c d e:Nat)(rs l m:List Nat)(hk:k<rs.length)(a:l.getD k 0=d)(b:m.getD k 0=e)
 (h:val 4294967296 (rs.take k)+4294967296 ^ k*c=val 4294967296 (l.take k)+val 4294967296 (m.take k)):
 val 4294967296 ((rs.set k ((c+(d+e)) % 4294967296)).take (k+1))+4294967296 ^ (k+1)*((c+(d+e)) / 4294967296)=val 4294967296 (l.take (k+1))+val 4294967296 (m.take (k+1)):=by
 rw[Qor _ _ _ _ _ _ hk h,Qae,Qae,a,b,Nat.mul_add];omega
theorem Qft(B k c d e r a:Nat)(rs l m:List Nat)(hk:k<rs.length)(b:l.getD k 0=d)(f:m.getD k 0=e)(g:r+c+e=d+B*a)
 (h:val B (rs.take k)+val B (m.take k)=val B (l.take k)+B ^ k*c):
 val B ((rs.set k r).take (k+1))+val B (m.take (k+1))=val B (l.take (k+1))+B ^ (k+1)*a:=by
 rw[take_set _ _ _ hk,Qal,List.length_take,Nat.min_eq_left (by omega),Qae,Qae,b,f,Nat.pow_succ];have i:B ^ k*(r+c+e)=B ^ k*(d+B*a):=by rw[g]
 rw[Nat.mul_add,Nat.mul_add,Nat.mul_add,←Nat.mul_assoc] at i;omega
theorem Qh8(d c e:Nat)(b:d<4294967296)(f:e<4294967296)(g:c≤1):∃r a:Nat,r<4294967296∧a≤1∧r+c+e=d+4294967296*a∧
 ((((d:Int) - c) % 18446744073709551616 - e) % 18446744073709551616) % 4294967296=(r:Int)∧((((d:Int) - c) % 18446744073709551616 - e) % 18446744073709551616) / 9223372036854775808=(a:Int):=by
 by_cases h:d<c+e
 · exact⟨d+4294967296 - c - e,1,by omega,by omega,by omega,by omega,by omega⟩
 · exact⟨d - c - e,0,by omega,by omega,by omega,by omega,by omega⟩
theorem Qbi(B:Nat)(l:List Nat)(k d:Nat)(h:k<l.length):val B (l.set k d)+B ^ k*l.getD k 0=val B l+B ^ k*d:=by
 have a:=Qak B (l.set k d) (k+1) (by simp;omega);have b:=Qak B l (k+1) (by omega);rw[take_set _ _ _ h,Qal,List.length_take,Nat.min_eq_left (by omega),List.drop_set_of_lt (by omega)] at a;rw[Qbv B l k h] at b;omega
theorem Qh9(l:List Nat)(k d q:Nat):(l.set k d).take q=(l.take q).set k d:=by
 rw[List.take_set]
theorem Qfu(l:List Nat)(q k:Nat)(h:k<q):(l.take q).getD k 0=l.getD k 0:=by
 rw[List.getD_eq_getElem?_getD,List.getD_eq_getElem?_getD,List.getElem?_take_of_lt h]
theorem Qia(B p q c t d R:Nat)(rs:List Nat)(i:q≤rs.length)(a:p<q)(b:rs.getD p 0=d)(h:val B (rs.take q)+B ^ p*c=R):
 val B ((rs.set p ((c+(t+d)) % B)).take q)+B ^ (p+1)*((c+(t+d)) / B)=R+B ^ p*t:=by
 rw[Qh9];have f:=Qbi B (rs.take q) p ((c+(t+d)) % B) (by rw[List.length_take];omega);rw[Qfu _ _ _ a,b] at f;have e:=Nat.mod_add_div (c+(t+d)) B;have g:B ^ p*((c+(t+d)) % B+B*((c+(t+d)) / B))=B ^ p*(c+(t+d)):=by rw[e]
 rw[Nat.mul_add,Nat.mul_add,Nat.mul_add,←Nat.mul_assoc] at g;rw[Nat.pow_succ];omega
theorem Qd0{B d e:Nat}(a:d<B)(b:e<B):d*e≤(B - 1)*(B - 1):=Nat.mul_le_mul (by omega) (by omega)
theorem Qos(B k i d e t q c z V:Nat)(rs m:List Nat)(a:t=d*e)(b:m.getD i 0=e)(f:q≤rs.length)(g:k+i<q)(j:rs.getD (k+i) 0=z)
 (h:val B (rs.take q)+B ^ (k+i)*c=V+B ^ k*(d*val B (m.take i))):
 val B ((rs.set (k+i) ((c+(t+z)) % B)).take q)+B ^ (k+(i+1))*((c+(t+z)) / B)=V+B ^ k*(d*val B (m.take (i+1))):=by
 rw[show k+(i+1)=k+i+1 from by omega,Qia B (k+i) q c t z _ rs f g j h,Qae,b,a,Nat.pow_add,Nat.mul_add,Nat.mul_add];rw[Nat.mul_left_comm d (B ^ i) e,←Nat.mul_assoc (B ^ k) (B ^ i) (d*e)];omega
theorem Qot(B k d c y n:Nat)(rs l:List Nat)(a:l.getD k 0=d)(b:k+n<rs.length)
 (h:val B (rs.take (k+n))+B ^ (k+n)*c=val B (l.take k)*y+B ^ k*(d*y)):
 val B ((rs.set (k+n) c).take (k+1+n))=val B (l.take (k+1))*y:=by
 rw[show k+1+n=k+n+1 from by omega,take_set _ _ _ b,Qal,List.length_take,Nat.min_eq_left (by omega),h,Qae,a,Nat.add_mul,Nat.mul_assoc]
theorem Qbj(l:List Nat)(k d:Nat)(h:k<l.length):(l.set k d).getD k 0=d:=by
 rw[List.getD_eq_getElem?_getD,List.getElem?_set_self h];rfl
theorem getD_set_ne(l:List Nat)(k d j:Nat)(h:k≠j):(l.set k d).getD j 0=l.getD j 0:=by
 rw[List.getD_eq_getElem?_getD,List.getD_eq_getElem?_getD,List.getElem?_set_ne h]
open Go.RowKit
open Go.Proofs.Tryz
abbrev Vz:=World
abbrev Vy:=List Nat
abbrev Vx:=Option Addr
abbrev Vw:=Array Value
abbrev Vv:=List Value
abbrev Vu:=List UInt8
abbrev Vt:=List ByteArray
abbrev Vs:=ByteArray
abbrev Vr:=TypeId
theorem sA{α:Type}{l:List α}{i:Nat}{a:α}:l.toArray.setIfInBounds i a=(l.set i a).toArray:=by simp
theorem sB{α:Type}{a b:α}{l:List α}:(a::l).set 0 b=b::l:=rfl
theorem sC{α:Type}{a b:α}{l:List α}{n:Nat}:(a::l).set (n+1) b=a::l.set n b:=rfl
abbrev Bl(w w':Vz):=Below w.heap.size w w'
theorem mH{α:Type}{a:α}{l:List α}:a∈a::l:=.head _
theorem mT{α:Type}{a b:α}{l:List α}(h:a∈l):a∈b::l:=.tail _ h
def O(p:Prop):Prop:=p
theorem O.o{p:Prop}(h:O p):p:=h
theorem Hi{p:Prop}(h:p):O p:=h
theorem ce{B:Nat}{w w':Vz}{b i:Nat}{o:Option Value}(h:Below B w w')(a:b<B)(c:w.cell? ⟨b,i,none⟩=o):w'.cell? ⟨b,i,none⟩=o:=(h.cell (p:=⟨b,i,none⟩) a).trans c
theorem nm{α:Type}(a:α):∃x,a=x:=⟨_,rfl⟩
theorem Ia{a b:Prop}(c:a)(d:b):O a∧O b:=⟨c,d⟩
theorem Ja{B:Nat}{w w':Vz}{b:Nat}{a c:Nat}{d e:Option Value}(h:Below B w w')(k:b<B)(f:w.cell? ⟨b,a,none⟩=d)(g:w.cell? ⟨b,c,none⟩=e):w'.cell? ⟨b,a,none⟩=d∧w'.cell? ⟨b,c,none⟩=e:=⟨ce h k f,ce h k g⟩
theorem Ib{a b c:Prop}(d:a)(e:b)(f:c):O a∧O b∧O c:=⟨d,e,f⟩
theorem Jb{B:Nat}{w w':Vz}{b:Nat}{a c d:Nat}{e f g:Option Value}(h:Below B w w')(k:b<B)(i:w.cell? ⟨b,a,none⟩=e)(j:w.cell? ⟨b,c,none⟩=f)(l:w.cell? ⟨b,d,none⟩=g):w'.cell? ⟨b,a,none⟩=e∧w'.cell? ⟨b,c,none⟩=f∧w'.cell? ⟨b,d,none⟩=g:=⟨ce h k i,ce h k j,ce h k l⟩
theorem Ic{a b c d:Prop}(e:a)(f:b)(g:c)(h:d):O a∧O b∧O c∧O d:=⟨e,f,g,h⟩
theorem Jc{B:Nat}{w w':Vz}{b:Nat}{a c d e:Nat}{f g i j:Option Value}(h:Below B w w')(k:b<B)(l:w.cell? ⟨b,a,none⟩=f)(m:w.cell? ⟨b,c,none⟩=g)(n:w.cell? ⟨b,d,none⟩=i)(o:w.cell? ⟨b,e,none⟩=j):w'.cell? ⟨b,a,none⟩=f∧w'.cell? ⟨b,c,none⟩=g∧w'.cell? ⟨b,d,none⟩=i∧w'.cell? ⟨b,e,none⟩=j:=⟨ce h k l,ce h k m,ce h k n,ce h k o⟩
theorem Id{a b c d e:Prop}(f:a)(g:b)(h:c)(i:d)(j:e):O a∧O b∧O c∧O d∧O e:=⟨f,g,h,i,j⟩
theorem Jd{B:Nat}{w w':Vz}{b:Nat}{a c d e f:Nat}{g i j l m:Option Value}(h:Below B w w')(k:b<B)(n:w.cell? ⟨b,a,none⟩=g)(o:w.cell? ⟨b,c,none⟩=i)(p:w.cell? ⟨b,d,none⟩=j)(q:w.cell? ⟨b,e,none⟩=l)(r:w.cell? ⟨b,f,none⟩=m):w'.cell? ⟨b,a,none⟩=g∧w'.cell? ⟨b,c,none⟩=i∧w'.cell? ⟨b,d,none⟩=j∧w'.cell? ⟨b,e,none⟩=l∧w'.cell? ⟨b,f,none⟩=m:=⟨ce h k n,ce h k o,ce h k p,ce h k q,ce h k r⟩
theorem Ie{a b c d e f:Prop}(g:a)(h:b)(i:c)(j:d)(k:e)(l:f):O a∧O b∧O c∧O d∧O e∧O f:=⟨g,h,i,j,k,l⟩
theorem Je{B:Nat}{w w':Vz}{b:Nat}{a c d e f g:Nat}{i j l m n o:Option Value}(h:Below B w w')(k:b<B)(p:w.cell? ⟨b,a,none⟩=i)(q:w.cell? ⟨b,c,none⟩=j)(r:w.cell? ⟨b,d,none⟩=l)(s:w.cell? ⟨b,e,none⟩=m)(t:w.cell? ⟨b,f,none⟩=n)(u:w.cell? ⟨b,g,none⟩=o):w'.cell? ⟨b,a,none⟩=i∧w'.cell? ⟨b,c,none⟩=j∧w'.cell? ⟨b,d,none⟩=l∧w'.cell? ⟨b,e,none⟩=m∧w'.cell? ⟨b,f,none⟩=n∧w'.cell? ⟨b,g,none⟩=o:=⟨ce h k p,ce h k q,ce h k r,ce h k s,ce h k t,ce h k u⟩
theorem If{a b c d e f g:Prop}(h:a)(i:b)(j:c)(k:d)(l:e)(m:f)(n:g):O a∧O b∧O c∧O d∧O e∧O f∧O g:=⟨h,i,j,k,l,m,n⟩
theorem Jf{B:Nat}{w w':Vz}{b:Nat}{a c d e f g i:Nat}{j l m n o p q:Option Value}(h:Below B w w')(k:b<B)(r:w.cell? ⟨b,a,none⟩=j)(s:w.cell? ⟨b,c,none⟩=l)(t:w.cell? ⟨b,d,none⟩=m)(u:w.cell? ⟨b,e,none⟩=n)(v:w.cell? ⟨b,f,none⟩=o)(x:w.cell? ⟨b,g,none⟩=p)(y:w.cell? ⟨b,i,none⟩=q):w'.cell? ⟨b,a,none⟩=j∧w'.cell? ⟨b,c,none⟩=l∧w'.cell? ⟨b,d,none⟩=m∧w'.cell? ⟨b,e,none⟩=n∧w'.cell? ⟨b,f,none⟩=o∧w'.cell? ⟨b,g,none⟩=p∧w'.cell? ⟨b,i,none⟩=q:=⟨ce h k r,ce h k s,ce h k t,ce h k u,ce h k v,ce h k x,ce h k y⟩
theorem Ig{a b c d e f g h:Prop}(i:a)(j:b)(k:c)(l:d)(m:e)(n:f)(o:g)(p:h):O a∧O b∧O c∧O d∧O e∧O f∧O g∧O h:=⟨i,j,k,l,m,n,o,p⟩
theorem Jg{B:Nat}{w w':Vz}{b:Nat}{a c d e f g i j:Nat}{l m n o p q r s:Option Value}(h:Below B w w')(k:b<B)(t:w.cell? ⟨b,a,none⟩=l)(u:w.cell? ⟨b,c,none⟩=m)(v:w.cell? ⟨b,d,none⟩=n)(x:w.cell? ⟨b,e,none⟩=o)(y:w.cell? ⟨b,f,none⟩=p)(z:w.cell? ⟨b,g,none⟩=q)(A:w.cell? ⟨b,i,none⟩=r)(C:w.cell? ⟨b,j,none⟩=s):w'.cell? ⟨b,a,none⟩=l∧w'.cell? ⟨b,c,none⟩=m∧w'.cell? ⟨b,d,none⟩=n∧w'.cell? ⟨b,e,none⟩=o∧w'.cell? ⟨b,f,none⟩=p∧w'.cell? ⟨b,g,none⟩=q∧w'.cell? ⟨b,i,none⟩=r∧w'.cell? ⟨b,j,none⟩=s:=⟨ce h k t,ce h k u,ce h k v,ce h k x,ce h k y,ce h k z,ce h k A,ce h k C⟩
theorem Ih{a b c d e f g h i:Prop}(j:a)(k:b)(l:c)(m:d)(n:e)(o:f)(p:g)(q:h)(r:i):O a∧O b∧O c∧O d∧O e∧O f∧O g∧O h∧O i:=⟨j,k,l,m,n,o,p,q,r⟩
theorem Jh{B:Nat}{w w':Vz}{b:Nat}{a c d e f g i j l:Nat}{m n o p q r s t u:Option Value}(h:Below B w w')(k:b<B)(v:w.cell? ⟨b,a,none⟩=m)(x:w.cell? ⟨b,c,none⟩=n)(y:w.cell? ⟨b,d,none⟩=o)(z:w.cell? ⟨b,e,none⟩=p)(A:w.cell? ⟨b,f,none⟩=q)(C:w.cell? ⟨b,g,none⟩=r)(D:w.cell? ⟨b,i,none⟩=s)(E:w.cell? ⟨b,j,none⟩=t)(F:w.cell? ⟨b,l,none⟩=u):w'.cell? ⟨b,a,none⟩=m∧w'.cell? ⟨b,c,none⟩=n∧w'.cell? ⟨b,d,none⟩=o∧w'.cell? ⟨b,e,none⟩=p∧w'.cell? ⟨b,f,none⟩=q∧w'.cell? ⟨b,g,none⟩=r∧w'.cell? ⟨b,i,none⟩=s∧w'.cell? ⟨b,j,none⟩=t∧w'.cell? ⟨b,l,none⟩=u:=⟨ce h k v,ce h k x,ce h k y,ce h k z,ce h k A,ce h k C,ce h k D,ce h k E,ce h k F⟩
theorem gE{α:Type}{l:List α}{i:Nat}(h:i<l.length):l[i]?=some l[i]:=List.getElem?_eq_getElem h
theorem mO{α:Type}{l:List α}{i:Nat}{a:α}(h:l[i]?=some a):a∈l:=List.mem_of_getElem? h
theorem gZ{α:Type}{l:List α}{i:Nat}{a:α}(h:l[i]?=some a):∃k:i<l.length,l[i]=a:=List.getElem?_eq_some_iff.1 h
theorem bC{p:Prop}(h:¬p→False):p:=Classical.byContradiction h
theorem lZ{n:Nat}:n≤n:=Nat.le_refl _
theorem bR{B:Nat}{w:Vz}:Below B w w:=Below.refl _ _
theorem cM{P:Program}{f:FuncId}{a:Vw}{w:Vz}{Q R:Ending→World→Prop}(h:Calls P f a w Q)(k:∀e w',Q e w'→R e w'):Calls P f a w R:=h.mono k
structure Row (k:IntKind) (w:Vz) (a:Vx) (cap:Nat) (l:Vy):Prop where
 fit:l.length<=cap
 shape:(a=none/\cap=0)∨∃b off,a=some ⟨b,off,none⟩/\b<w.heap.size
 cell:∀i,i<l.length->∃b off,a=some ⟨b,off,none⟩/\b<w.heap.size/\w.cell? ⟨b,off+i,none⟩=some (.int k ((l.getD i 0:Nat):Int))
theorem Row.nil(k:IntKind)(w:Vz):Row k w none 0 []:=⟨by simp,.inl ⟨rfl,rfl⟩,fun i a=>by simp at a⟩
theorem Row.below{k:IntKind}{w w':Vz}{a:Vx}{d:Nat}{l:Vy}(h:Row k w a d l)(e:Below w.heap.size w w'):Row k w' a d l:=by
 refine⟨h.fit,?_,fun i j=>?_⟩
 .
  rcases h.shape with f|⟨b,c,rfl,g⟩
  . exact .inl f
  . exact .inr ⟨b,c,rfl,by have:=e.size;omega⟩
 . obtain⟨b,c,f,g,m⟩:=h.cell i j
   exact⟨b,c,f,by have:=e.size;omega,ce e g m⟩
theorem Row.take{k:IntKind}{w:Vz}{a:Vx}{c:Nat}{l:Vy}(h:Row k w a c l)(n:Nat)(m:n<=l.length):Row k w a c (l.take n):=by
 refine⟨by rw[List.length_take];have:=h.fit;omega,h.shape,fun i e=>?_⟩;rw[List.length_take] at e;obtain⟨b,d,f,g,j⟩:=h.cell i (by omega);refine⟨b,d,f,g,?_⟩;rw[j,List.getD_eq_getElem?_getD,List.getD_eq_getElem?_getD,List.getElem?_take_of_lt (by omega)]
def wordCells(k:IntKind)(l:Vy):Array Value:=(l.map (fun n:Nat=>Value.int k n)).toArray
def Blk(k:IntKind)(t:Vr)(w:Vz)(g:Nat)(l:Vy):Prop:=w.heap[g]?=some (.cells (wordCells k l) t (0,0))
theorem Blk.lt{k:IntKind}{t:Vr}{w:Vz}{g:Nat}{l:Vy}(h:Blk k t w g l):g<w.heap.size:=by
 apply bC;intro a;unfold Blk at h;rw[Array.getElem?_eq_none (by omega)] at h;cases h
theorem Blk.cell{k:IntKind}{t:Vr}{w:Vz}{g:Nat}{l:Vy}(h:Blk k t w g l)(i:Nat)(a:i<l.length):w.cell? ⟨g,i,none⟩=some (.int k ((l.getD i 0:Nat):Int)):=by
 unfold Blk at h;simp[World.cell?,h,wordCells,a]
theorem Blk.free{k:IntKind}{t:Vr}{w:Vz}{g:Nat}{l:Vy}(h:Blk k t w g l)(i:Nat):w.frozen? ⟨g,i,none⟩=false:=by
 unfold Blk at h;simp[World.frozen?,h]
theorem Qsb(k:IntKind)(l:Vy)(i x:Nat):(wordCells k l).setIfInBounds i (.int k (x:Int))=wordCells k (l.set i x):=by
 unfold wordCells;apply Array.ext';simp[List.map_set]
theorem Blk.set{k:IntKind}{t:Vr}{w:Vz}{g:Nat}{l:Vy}(h:Blk k t w g l)(i x:Nat):Blk k t (w.setCell ⟨g,i,none⟩ (.int k (x:Int))) g (l.set i x):=by
 unfold Blk at h ⊢;simp[World.setCell,Array.getElem?_modify,h,<-Qsb]
theorem Blk.other{k:IntKind}{t:Vr}{w:Vz}{g a:Nat}{l:Vy}(h:Blk k t w g l)(b:g≠a)(i:Nat)(v:Value):Blk k t (w.setCell ⟨a,i,none⟩ v) g l:=by
 unfold Blk at h ⊢;rw[Below.heap_setCell _ _ _ _ b];exact h
theorem Blk.drew{k:IntKind}{t:Vr}{w:Vz}{g:Nat}{l:Vy}(h:Blk k t w g l):Blk k t w.drew g l:=h
theorem Blk.alloc{k:IntKind}{t:Vr}{w:Vz}{g:Nat}{l:Vy}(h:Blk k t w g l)(o:Obj):Blk k t (w.alloc o) g l:=by
 have:=h.lt;unfold Blk at h ⊢;rw[Below.heap_alloc _ _ _ this];exact h
theorem Blk.below{k:IntKind}{t:Vr}{w w':Vz}{g B:Nat}{l:Vy}(h:Blk k t w g l)(a:Below B w w')(b:g<B):Blk k t w' g l:=by
 unfold Blk at h ⊢;rw[a.block g b];exact h
theorem Blk.new(k:IntKind)(t:Vr)(w:Vz)(l:Vy):Blk k t (w.alloc (.cells (wordCells k l) t)) w.heap.size l:=by
 show (w.heap.push _)[w.heap.size]?=_
 simp
theorem Blk.row{k:IntKind}{t:Vr}{w:Vz}{g:Nat}{l:Vy}(h:Blk k t w g l)(n:Nat)(c:n<=l.length)(a:Nat)(d:n<=a):Row k w (some ⟨g,0,none⟩) a (l.take n):=by
 have hl:=h.lt;refine⟨by rw[List.length_take];omega,.inr ⟨g,0,rfl,hl⟩,fun i b=>⟨g,0,rfl,hl,?_⟩⟩;rw[List.length_take] at b;have:=h.cell i (by omega);rw[Nat.zero_add,this,List.getD_eq_getElem?_getD,List.getD_eq_getElem?_getD,List.getElem?_take_of_lt (by omega)]
theorem Qaq(n:Int):IntKind.u64.wrap n=n % 18446744073709551616:=by
 simp[IntKind.wrap,IntKind.signed,IntKind.bits]
def zeros(n:Nat):List Nat:=List.replicate n 0
theorem Qag(n:Nat):(zeros n).length=n:=by unfold zeros;simp
theorem Qam(B n:Nat)(hB:0<B):Small B (zeros n):=Small.replicate B n hB
theorem Qb2(n j:Nat):(zeros n).getD j 0=0:=by
 unfold zeros;rw[List.getD_eq_getElem?_getD,List.getElem?_replicate]
 split<;>rfl
theorem Qeh(B n:Nat):val B (zeros n)=0:=Qon B n
theorem Qei(k:IntKind)(n:Nat):madeCells #[Value.int k 0] n=wordCells k (zeros n):=by
 unfold madeCells wordCells zeros;apply Array.ext
 . simp
 . intro i a b
   simp[Nat.mod_one]
theorem Tryz.info32:(prog.info? 233).map (fun i=>(i.zero,i.size,i.bytes))=some (some (.int .u32 0),1,4):=by kernel_rfl
theorem Tryz.info64:(prog.info? 190).map (fun i=>(i.zero,i.size,i.bytes))=some (some (.int .u64 0),1,8):=by kernel_rfl
theorem Qa5(L:Int)(n:Nat)(a:L=n)(b:n<=2199023255552)(w:Vz):
 (Instr.makeSlice 119 (.int .i64 L) (.int .i64 L)).run prog w=.ok (.slice (some ⟨w.heap.size,0,none⟩) n n) (w.alloc (.cells (wordCells .u32 (zeros n)) 233)):=by
 subst a;rw[<-Qei];exact Go.run_make_row' 119 233 (.int .u32 0) 4 underlying119 Tryz.info32 rfl .i64 .i64 n (by omega) (by omega) w
structure U32 (w:Vz) (a:Vx) (cap:Nat) (l:Vy) (n:Nat):Prop where
 row:Row .u32 w a cap l
 num:Num 4294967296 l n
 short:l.length<=1099511627776
theorem U32.below{w w':Vz}{a:Vx}{b:Nat}{l:Vy}{n:Nat}(h:U32 w a b l n)(c:Bl w w'):U32 w' a b l n:=⟨h.row.below c,h.num,h.short⟩
theorem Qbf(H I:Vx)(c1 c2:Nat)(l m:Vy)(x y:Nat)(w:Vz)(a:U32 w H c1 l x)(c:U32 w I c2 m y):
 Calls prog 136 #[.slice H l.length c1,.slice I m.length c2] w fun e w'=>e=.returned (.int .i64 (cmp3 x y))/\Below w.heap.size w w':=by
 have S:=a.short;have T:=c.short;by_cases f:l.length<m.length
 .
  have t:((l.length:Int) != (m.length:Int))=true:=by rw[bne_iff_ne];omega
  have u:cmp3 x y= -1:=Qc0 (by rw[<-a.num.eq,<-c.num.eq];exact Qat (by omega) a.num.small c.num.trim f);have A:O (cmp3 x y= -1):=u;clear u;go_enter func136,ntmps136;go_wp2;go_ret;exact⟨by rw[A.o];rfl,Below.refl _ _⟩
 by_cases v:m.length<l.length
 .
  have t:((l.length:Int) != (m.length:Int))=true:=by rw[bne_iff_ne];omega
  have u:cmp3 x y=1:=Qdx (by rw[<-a.num.eq,<-c.num.eq];exact Qat (by omega) c.num.small a.num.trim v);have A:O (cmp3 x y=1):=u;clear u;go_enter func136,ntmps136;go_wp2;go_ret;exact⟨by rw[A.o];rfl,Below.refl _ _⟩
 have n:m.length=l.length:=by omega
 have J:O (m.length=l.length):=n;rw[n];have t:((l.length:Int) != (l.length:Int))=false:=by simp
 clear f v n;go_enter func136,ntmps136;go_wp2;go_loopw [5] (fun i wr=>∃k:Nat,k<=l.length/\i=.int .i64 ((k:Int) - 1)/\l.drop k=m.drop k/\Below w.heap.size w wr) (fun i _=>(intOf i+1).toNat)
 case atStart=>exact⟨l.length,Nat.le_refl _,rfl,by rw[List.drop_of_length_le lZ,List.drop_of_length_le (by rw[J.o];exact Nat.le_refl _)],Below.refl _ _⟩
 case round=>
  obtain⟨k,hk,rfl,r,s⟩:=hrel;have z:O (l.drop k=m.drop k):=r;clear r;by_cases N:k=0
  .
   subst N;go_wp2;go_ret;exact⟨by rw[Qh6 (by rw[<-a.num.eq,<-c.num.eq];have:=z.o;simp at this;rw[this])];rfl,s⟩
  .
   obtain⟨j,rfl⟩:∃j,k=j+1:=⟨k - 1,by omega⟩;have g:j<l.length:=by omega
   have h:j<m.length:=by have:=J.o;omega
   obtain⟨b,P,rfl,B,p⟩:=a.row.cell j g;obtain⟨U,K,rfl,C,q⟩:=c.row.cell j h;obtain⟨d,r⟩:=nm (l.getD j 0);obtain⟨e,D⟩:=nm (m.getD j 0);rw[r] at p;rw[D] at q;have L:=ce s B p;have M:=ce s C q;have E:O (l.getD j 0=d):=r;have F:O (m.getD j 0=e):=D;clear r D p q;have Q:((j+1:Nat):Int) - 1=(j:Int):=by omega
   rw[Q];by_cases G:d=e
   .
    subst G;have R:((d:Int) != (d:Int))=false:=by simp
    go_wp2;go_region
    all_goals
     go_wp2;go_roundw
     case rel=>exact⟨j,by omega,by go_num,Qh7 g h z.o (E.o.trans F.o.symm),s.drew⟩
     case measure=>simp[intOf]
   .
    have R:((d:Int) != (e:Int))=true:=by rw[bne_iff_ne];omega
    by_cases f:d<e
    .
     go_wp2;go_region
     all_goals
      go_wp2;go_region
     all_goals
      go_wp2;go_ret;exact⟨by rw[Qc0 (by rw[<-a.num.eq,<-c.num.eq];exact Qdy (by omega) a.num.small j g h z.o (by rw[E.o,F.o];exact f))];rfl,s.drew.drew⟩
    .
     go_wp2;go_region
     all_goals
      go_wp2;go_region
     all_goals
      go_wp2;go_ret;exact⟨by rw[Qdx (by rw[<-a.num.eq,<-c.num.eq];exact Qdy (by omega) c.num.small j h g z.o.symm (by rw[E.o,F.o];omega))];rfl,s.drew.drew⟩
theorem Qoa(l:Vy)(k:Nat)(hk:k<=l.length)(h:k=0∨l.getD (k - 1) 0≠0):Trim (l.take k):=by
 rcases h with rfl|h
 . left;simp
 .
  by_cases a:k=0
  . left;subst a;simp
  .
   right;rw[List.length_take,Nat.min_eq_left hk,List.getD_eq_getElem?_getD,List.getElem?_take_of_lt (by omega),<-List.getD_eq_getElem?_getD];exact h
theorem Qob(B:Nat)(l:Vy)(k:Nat)(hk:k<l.length)(h:l.getD k 0=0):val B (l.take (k+1))=val B (l.take k):=by
 rw[Qbv B l k hk,h];simp
theorem Qhu(a:Vx)(c:Nat)(l:Vy)(w:Vz)(h:Row .u32 w a c l)(hl:l.length<=1099511627776):
 Calls prog 194 #[.slice a l.length c] w fun e w'=>(∃k,k<=l.length/\e=.returned (.slice a k c)/\val 4294967296 (l.take k)=val 4294967296 l/\Trim (l.take k))/\w'=w:=by
 have m:=h.fit;go_enter func194,ntmps194;go_wp2;go_loop [3] (fun n=>∃k:Nat,k<=l.length/\n=.int .i64 k/\val 4294967296 (l.take k)=val 4294967296 l) (fun n=>(intOf n).toNat)
 case atStart=>exact⟨l.length,Nat.le_refl _,rfl,by rw[List.take_length]⟩
 case round=>
  obtain⟨k,hk,rfl,p⟩:=hrel;have f:O (val 4294967296 (l.take k)=val 4294967296 l):=p;clear p;by_cases t:k=0
  .
   subst t;rcases h.shape with ⟨rfl,rfl⟩|⟨b,g,rfl,u⟩
   all_goals
    go_wp2;go_ret;exact⟨⟨0,by omega,by simp,f.o,.inl (by simp)⟩,rfl⟩
  .
   obtain⟨b,g,rfl,u,q⟩:=h.cell (k - 1) (by omega);obtain⟨j,rfl⟩:∃j,k=j+1:=⟨k - 1,by omega⟩;simp only[Nat.add_sub_cancel] at q;obtain⟨d,i⟩:=nm (l.getD j 0);rw[i] at q;have r:O (l.getD j 0=d):=i;clear i;by_cases s:d=0
   .
    subst s;go_wp2;go_round
    case rel=>exact⟨j,by omega,by go_num,(Qob _ l j (by omega) r.o).symm.trans f.o⟩
    case measure=>simp[intOf]
   .
    have v:((d:Int) == 0)=false:=by simp;omega
    go_wp2;go_ret;exact⟨⟨j+1,hk,by simp,f.o,Qoa l (j+1) hk (.inr (by rw[Nat.add_sub_cancel,r.o];exact s))⟩,rfl⟩
theorem Qa0(g n b x:Nat)(rs:Vy)(w:Vz)(h:Blk .u32 233 w g rs)(hl:rs.length=n)(k:Small 4294967296 rs)(l:n<=b)(o:n<=1099511627776)(m:val 4294967296 rs=x):
 Calls prog 194 #[.slice (some ⟨g,0,none⟩) n b] w fun e w'=>(∃a b r,e=.returned (.slice a r.length b)/\U32 w a b r x)/\w'=w:=by
 have d:=h.row n (by omega) b l;rw[List.take_of_length_le (by omega)] at d;have j:=Qhu (some ⟨g,0,none⟩) b rs w d (by omega);rw[hl] at j;refine j.mono ?_;rintro e p ⟨⟨q,s,rfl,f,i⟩,rfl⟩;have c:(rs.take q).length=q:=by rw[List.length_take];omega
 exact⟨⟨_,b,rs.take q,by rw[c],d.take q (by omega),⟨k.take q,i,f.trans m⟩,by rw[c];omega⟩,rfl⟩
theorem Qho(a1 a2:Vx)(c1 c2:Nat)(l m:Vy)(x y:Nat)(w:Vz)(N:U32 w a1 c1 l x)(P:U32 w a2 c2 m y)(hl:l.length<1099511627776)(hm:m.length<1099511627776):
 Calls prog 148 #[.slice a1 l.length c1,.slice a2 m.length c2] w fun e w'=>(∃a p r,e=.returned (.slice a r.length p)/\U32 w' a p r (x+y))/\Below w.heap.size w w':=by
 by_cases aa:l.length<m.length
 .
  have v:∀w,(Instr.makeSlice 119 (.int .i64 ((m.length:Int)+1)) (.int .i64 ((m.length:Int)+1))).run prog w=.ok (.slice (some ⟨w.heap.size,0,none⟩) (m.length+1) (m.length+1)) (w.alloc (.cells (wordCells .u32 (zeros (m.length+1))) 233)):=
   fun w=>Qa5 _ (m.length+1) (by omega) (by omega) w
  go_enter func148,ntmps148;go_wp2;clear v;go_loopw [6,7] (fun c i wr=>∃(k A:Nat) (rs:Vy),k<=m.length/\A<=1/\c=.int .u64 A/\i=.int .i64 k/\Blk .u32 233 wr w.heap.size rs/\rs.length=m.length+1/\Small 4294967296 rs/\
   val 4294967296 (rs.take k)+4294967296 ^ k*A=val 4294967296 (m.take k)+val 4294967296 (l.take k)/\Below w.heap.size w wr) (fun _ i _=>m.length - (intOf i).toNat)
  case atStart=>exact⟨0,0,zeros (m.length+1),by omega,by omega,rfl,rfl,Blk.new _ _ _ _,Qag _,Qam _ _ (by omega),by simp[val],bR.alloc lZ _⟩
  case round=>
   obtain⟨k,c,rs,hk,hc,rfl,rfl,hB,g,h,Q,q⟩:=hrel;have B:O (val 4294967296 (rs.take k)+4294967296 ^ k*c=val 4294967296 (m.take k)+val 4294967296 (l.take k)):=Q;have f:O (rs.length=m.length+1):=g;have C:O (Blk .u32 233 wr w.heap.size rs):=hB;clear Q;by_cases D:k<m.length
   .
    obtain⟨b,V,rfl,E,j⟩:=P.row.cell k D;obtain⟨d,t⟩:=nm (m.getD k 0);have W:d<4294967296:=by rw[<-t];exact P.num.small.getD (by omega) k
    rw[t] at j;have R:=ce q E j;have S:O (m.getD k 0=d):=t;obtain⟨z,s⟩:=nm (rs.getD k 0);have X:=hB.free k;have F:=hB.cell k (by omega);rw[s] at F;clear t j s hB g;by_cases G:k<l.length
    .
     obtain⟨b',T,rfl,H,n⟩:=N.row.cell k G;obtain⟨e,u⟩:=nm (l.getD k 0);have Y:e<4294967296:=by rw[<-u];exact N.num.small.getD (by omega) k
     rw[u] at n;have U:=ce q H n;have Z:O (l.getD k 0=e):=u;clear u n;have I:O (((c:Int)+d+e) % 4294967296=(((c+(d+e)) % 4294967296:Nat):Int)):=by unfold O;omega
     have J:O (((c:Int)+d+e) / 4294967296=(((c+(d+e)) / 4294967296:Nat):Int)):=by unfold O;omega
     go_wp2;go_roundw
     case rel=>
      rw[I.o,J.o];exact⟨k+1,(c+(d+e)) / 4294967296,rs.set k ((c+(d+e)) % 4294967296),by omega,by omega,rfl,by go_num,C.o.set k _,by rw[List.length_set];exact f.o,h.set k (by omega),Qdz k c d e rs m l (by have:=f.o;omega) S.o Z.o B.o,q.setCell lZ _⟩
     case measure=>simp[intOf];omega
    .
     have I:O (((c:Int)+d) % 4294967296=(((c+(d+0)) % 4294967296:Nat):Int)):=by unfold O;omega
     have J:O (((c:Int)+d) / 4294967296=(((c+(d+0)) / 4294967296:Nat):Int)):=by unfold O;omega
     go_wp2;go_roundw
     case rel=>
      rw[I.o,J.o];exact⟨k+1,(c+(d+0)) / 4294967296,rs.set k ((c+(d+0)) % 4294967296),by omega,by omega,rfl,by go_num,C.o.set k _,by rw[List.length_set];exact f.o,h.set k (by omega),Qdz k c d 0 rs m l (by have:=f.o;omega) S.o (Qbw l k (by omega)) B.o,q.setCell lZ _⟩
     case measure=>simp[intOf];omega
   .
    obtain⟨z,s⟩:=nm (rs.getD m.length 0);have X:=hB.free m.length;have F:=hB.cell m.length (by omega);rw[s] at F;clear s hB g;go_wp2_with fail;have K:(rs.set m.length c).length=m.length+1:=by rw[List.length_set];exact f.o
    have L:=C.o.set m.length c;have M:val 4294967296 (rs.set m.length c)=x+y:=by
     rw[Qfs _ _ _ _ f.o];have e1:k=m.length:=by omega
     have e2:=B.o;rw[e1,List.take_length,Qa6 _ l _ (by omega),P.num.eq,N.num.eq] at e2;omega
    refine(Qa0 w.heap.size (m.length+1) (m.length+1) (x+y) (rs.set m.length c) _ L K (h.set _ (by omega)) lZ (by omega) M).mono ?_;rintro e w1 ⟨⟨a,p,r,rfl,hu⟩,rfl⟩;go_wp2;go_ret;exact⟨⟨a,p,r,rfl,hu⟩,q.setCell lZ _⟩
 .
  have v:∀w,(Instr.makeSlice 119 (.int .i64 ((l.length:Int)+1)) (.int .i64 ((l.length:Int)+1))).run prog w=.ok (.slice (some ⟨w.heap.size,0,none⟩) (l.length+1) (l.length+1)) (w.alloc (.cells (wordCells .u32 (zeros (l.length+1))) 233)):=
   fun w=>Qa5 _ (l.length+1) (by omega) (by omega) w
  go_enter func148,ntmps148;go_wp2;clear v;go_loopw [6,7] (fun c i wr=>∃(k A:Nat) (rs:Vy),k<=l.length/\A<=1/\c=.int .u64 A/\i=.int .i64 k/\Blk .u32 233 wr w.heap.size rs/\rs.length=l.length+1/\Small 4294967296 rs/\
   val 4294967296 (rs.take k)+4294967296 ^ k*A=val 4294967296 (l.take k)+val 4294967296 (m.take k)/\Below w.heap.size w wr) (fun _ i _=>l.length - (intOf i).toNat)
  case atStart=>exact⟨0,0,zeros (l.length+1),by omega,by omega,rfl,rfl,Blk.new _ _ _ _,Qag _,Qam _ _ (by omega),by simp[val],bR.alloc lZ _⟩
  case round=>
   obtain⟨k,c,rs,hk,hc,rfl,rfl,hB,g,h,Q,q⟩:=hrel;have B:O (val 4294967296 (rs.take k)+4294967296 ^ k*c=val 4294967296 (l.take k)+val 4294967296 (m.take k)):=Q;have f:O (rs.length=l.length+1):=g;have C:O (Blk .u32 233 wr w.heap.size rs):=hB;clear Q;by_cases D:k<l.length
   .
    obtain⟨b,V,rfl,E,j⟩:=N.row.cell k D;obtain⟨d,t⟩:=nm (l.getD k 0);have W:d<4294967296:=by rw[<-t];exact N.num.small.getD (by omega) k
    rw[t] at j;have R:=ce q E j;have S:O (l.getD k 0=d):=t;obtain⟨z,s⟩:=nm (rs.getD k 0);have X:=hB.free k;have F:=hB.cell k (by omega);rw[s] at F;clear t j s hB g;by_cases G:k<m.length
    .
     obtain⟨b',T,rfl,H,n⟩:=P.row.cell k G;obtain⟨e,u⟩:=nm (m.getD k 0);have Y:e<4294967296:=by rw[<-u];exact P.num.small.getD (by omega) k
     rw[u] at n;have U:=ce q H n;have Z:O (m.getD k 0=e):=u;clear u n;have I:O (((c:Int)+d+e) % 4294967296=(((c+(d+e)) % 4294967296:Nat):Int)):=by unfold O;omega
     have J:O (((c:Int)+d+e) / 4294967296=(((c+(d+e)) / 4294967296:Nat):Int)):=by unfold O;omega
     go_wp2;go_roundw
     case rel=>
      rw[I.o,J.o];exact⟨k+1,(c+(d+e)) / 4294967296,rs.set k ((c+(d+e)) % 4294967296),by omega,by omega,rfl,by go_num,C.o.set k _,by rw[List.length_set];exact f.o,h.set k (by omega),Qdz k c d e rs l m (by have:=f.o;omega) S.o Z.o B.o,q.setCell lZ _⟩
     case measure=>simp[intOf];omega
    .
     have I:O (((c:Int)+d) % 4294967296=(((c+(d+0)) % 4294967296:Nat):Int)):=by unfold O;omega
     have J:O (((c:Int)+d) / 4294967296=(((c+(d+0)) / 4294967296:Nat):Int)):=by unfold O;omega
     go_wp2;go_roundw
     case rel=>
      rw[I.o,J.o];exact⟨k+1,(c+(d+0)) / 4294967296,rs.set k ((c+(d+0)) % 4294967296),by omega,by omega,rfl,by go_num,C.o.set k _,by rw[List.length_set];exact f.o,h.set k (by omega),Qdz k c d 0 rs l m (by have:=f.o;omega) S.o (Qbw m k (by omega)) B.o,q.setCell lZ _⟩
     case measure=>simp[intOf];omega
   .
    obtain⟨z,s⟩:=nm (rs.getD l.length 0);have X:=hB.free l.length;have F:=hB.cell l.length (by omega);rw[s] at F;clear s hB g;go_wp2_with fail;have K:(rs.set l.length c).length=l.length+1:=by rw[List.length_set];exact f.o
    have L:=C.o.set l.length c;have M:val 4294967296 (rs.set l.length c)=x+y:=by
     rw[Qfs _ _ _ _ f.o];have e1:k=l.length:=by omega
     have e2:=B.o;rw[e1,List.take_length,Qa6 _ m _ (by omega),N.num.eq,P.num.eq] at e2;omega
    refine(Qa0 w.heap.size (l.length+1) (l.length+1) (x+y) (rs.set l.length c) _ L K (h.set _ (by omega)) lZ (by omega) M).mono ?_;rintro e w1 ⟨⟨a,p,r,rfl,hu⟩,rfl⟩;go_wp2;go_ret;exact⟨⟨a,p,r,rfl,hu⟩,q.setCell lZ _⟩
theorem Qht(W X:Vx)(c1 c2:Nat)(l m:Vy)(x y:Nat)(w:Vz)(C:U32 w W c1 l x)(D:U32 w X c2 m y)(ad:y<=x):
 Calls prog 228 #[.slice W l.length c1,.slice X m.length c2] w fun e w'=>(∃a j r,e=.returned (.slice a r.length j)/\U32 w' a j r (x - y))/\Below w.heap.size w w':=by
 have ae:m.length<=l.length:=by
  apply bC;intro I;have:=Qat (B:=4294967296) (by omega) C.num.small D.num.trim (by omega);rw[C.num.eq,D.num.eq] at this;omega
 have s1:=C.short;have J:=
  fun w=>Qa5 _ l.length rfl (by omega) w
 go_enter func228,ntmps228;go_wp2;clear J;go_loopw [6,7] (fun c i wr=>∃(k f:Nat) (rs:Vy),k<=l.length/\f<=1/\c=.int .u64 f/\i=.int .i64 k/\Blk .u32 233 wr w.heap.size rs/\rs.length=l.length/\Small 4294967296 rs/\
  val 4294967296 (rs.take k)+val 4294967296 (m.take k)=val 4294967296 (l.take k)+4294967296 ^ k*f/\Below w.heap.size w wr) (fun _ i _=>l.length - (intOf i).toNat)
 case atStart=>exact⟨0,0,zeros l.length,by omega,by omega,rfl,rfl,Blk.new _ _ _ _,Qag _,Qam _ _ (by omega),by simp[val],bR.alloc lZ _⟩
 case round=>
  obtain⟨k,c,rs,hk,I,rfl,rfl,hB,n,p,Y,E⟩:=hrel;have K:O (val 4294967296 (rs.take k)+val 4294967296 (m.take k)=val 4294967296 (l.take k)+4294967296 ^ k*c):=Y;have g:O (rs.length=l.length):=n;have L:O (Blk .u32 233 wr w.heap.size rs):=hB;clear Y;by_cases M:k<l.length
  .
   obtain⟨b,af,rfl,N,t⟩:=C.row.cell k M;obtain⟨d,G⟩:=nm (l.getD k 0);have F:d<4294967296:=by rw[<-G];exact C.num.small.getD (by omega) k
   rw[G] at t;have Z:=ce E N t;have H1:O (l.getD k 0=d):=G;obtain⟨z,hz⟩:=nm (rs.getD k 0);have g1:=hB.free k;have g2:=hB.cell k (by omega);rw[hz] at g2;clear G t hz hB n;by_cases P:k<m.length
   .
    obtain⟨b',aa,rfl,Q,u⟩:=D.row.cell k P;obtain⟨e,H⟩:=nm (m.getD k 0);have R:e<4294967296:=by rw[<-H];exact D.num.small.getD (by omega) k
    rw[H] at u;have ab:=ce E Q u;have H2:O (m.getD k 0=e):=H;clear H u;obtain⟨r,f,v,A,h,q,s⟩:=Qh8 d c e F R I;have S:O (r+c+e=d+4294967296*f):=h;have T:O (((((d:Int) - c) % 18446744073709551616 - e) % 18446744073709551616) % 4294967296=(r:Int)):=q;have U:O (((((d:Int) - c) % 18446744073709551616 - e) % 18446744073709551616) / 9223372036854775808=(f:Int)):=s;clear h q s;go_wp2;go_roundw
    case rel=>
     simp only[Qaq,T.o,U.o];exact⟨k+1,f,rs.set k r,by omega,A,rfl,by go_num,L.o.set k _,by rw[List.length_set];exact g.o,p.set k v,Qft _ k c d e r f rs l m (by have:=g.o;omega) H1.o H2.o S.o K.o,E.setCell lZ _⟩
    case measure=>simp[intOf];omega
   .
    obtain⟨r,f,v,A,h,q,s⟩:=Qh8 d c 0 F (by omega) I;have S:O (r+c+0=d+4294967296*f):=h;have T:O ((((d:Int) - c) % 18446744073709551616) % 4294967296=(r:Int)):=by unfold O;omega
    have U:O ((((d:Int) - c) % 18446744073709551616) / 9223372036854775808=(f:Int)):=by unfold O;omega
    clear h q s;go_wp2;go_roundw
    case rel=>
     simp only[Qaq,T.o,U.o];exact⟨k+1,f,rs.set k r,by omega,A,rfl,by go_num,L.o.set k _,by rw[List.length_set];exact g.o,p.set k v,Qft _ k c d 0 r f rs l m (by have:=g.o;omega) H1.o (Qbw m k (by omega)) S.o K.o,E.setCell lZ _⟩
    case measure=>simp[intOf];omega
  .
   have V:val 4294967296 rs=x - y:=by
    have e1:k=l.length:=by omega
    have e2:=K.o;rw[e1,List.take_length,Qa6 _ m _ (by omega),List.take_of_length_le (by omega),C.num.eq,D.num.eq] at e2;have e3:=Qab (B:=4294967296) (by omega) p;rw[n] at e3;have e4:c=0:=by
     apply bC;intro ag;have:c=1:=by omega
     subst this;omega
    subst e4;omega
   clear n hB;go_wp2_with fail;refine(Qa0 w.heap.size l.length l.length (x - y) rs _ L.o g.o p lZ (by omega) V).mono ?_;rintro e w1 ⟨⟨a,j,r,rfl,hu⟩,rfl⟩;go_wp2;go_ret;exact⟨⟨a,j,r,rfl,hu⟩,E⟩
theorem Qhr(a1 a2:Vx)(c1 c2:Nat)(l m:Vy)(x y:Nat)(w:Vz)(I:U32 w a1 c1 l x)(J:U32 w a2 c2 m y)(N:l.length+m.length<=1099511627776):
 Calls prog 138 #[.slice a1 l.length c1,.slice a2 m.length c2] w fun e w'=>(∃a p r,e=.returned (.slice a r.length p)/\U32 w' a p r (x*y))/\Below w.heap.size w w':=by
 by_cases s:l.length=0
 .
  have hx:=(I.num.len_zero (by omega)).2 s;have q1:((l.length:Int) == 0)=true:=by simp[s]
  have P:O (x=0):=hx;clear s hx;go_enter func138,ntmps138;go_wp2;go_ret;exact⟨⟨none,0,[],rfl,by rw[P.o,Nat.zero_mul];exact⟨Row.nil _ _,Num.zero _,by simp⟩⟩,Below.refl _ _⟩
 by_cases u:m.length=0
 .
  have hy:=(J.num.len_zero (by omega)).2 u;have q1:((l.length:Int) == 0)=false:=by rw[beq_eq_false_iff_ne];omega
  have q2:((m.length:Int) == 0)=true:=by simp[u]
  have P:O (y=0):=hy;clear u hy;go_enter func138,ntmps138;go_wp2;go_ret;exact⟨⟨none,0,[],rfl,by rw[P.o,Nat.mul_zero];exact⟨Row.nil _ _,Num.zero _,by simp⟩⟩,Below.refl _ _⟩
 have q1:((l.length:Int) == 0)=false:=by rw[beq_eq_false_iff_ne];omega
 have q2:((m.length:Int) == 0)=false:=by rw[beq_eq_false_iff_ne];omega
 have Q:∀w,(Instr.makeSlice 119 (.int .i64 ((l.length:Int)+(m.length:Int))) (.int .i64 ((l.length:Int)+(m.length:Int)))).run prog w=.ok (.slice (some ⟨w.heap.size,0,none⟩) (l.length+m.length) (l.length+m.length)) (w.alloc (.cells (wordCells .u32 (zeros (l.length+m.length))) 233)):=
  fun w=>Qa5 _ (l.length+m.length) (by omega) (by omega) w
 go_enter func138,ntmps138;go_wp2;clear Q;go_loopw [6] (fun i wr=>∃(k:Nat) (rs:Vy),k<=l.length/\i=.int .i64 k/\Blk .u32 233 wr w.heap.size rs/\rs.length=l.length+m.length/\Small 4294967296 rs/\
  val 4294967296 (rs.take (k+m.length))=val 4294967296 (l.take k)*y/\Below w.heap.size w wr) (fun i _=>l.length - (intOf i).toNat)
 case atStart=>exact⟨0,zeros (l.length+m.length),by omega,rfl,Blk.new _ _ _ _,Qag _,Qam _ _ (by omega),by rw[show (zeros (l.length+m.length)).take (0+m.length)=zeros m.length from by unfold zeros;simp,Qeh];simp[val],bR.alloc lZ _⟩
 case round=>
  obtain⟨k,rs,hk,rfl,hB,g,h,D,q⟩:=hrel;have B:O (val 4294967296 (rs.take (k+m.length))=val 4294967296 (l.take k)*y):=D;have f:O (rs.length=l.length+m.length):=g;have C:O (Blk .u32 233 wr w.heap.size rs):=hB;have n:O (Small 4294967296 rs):=h;clear D h;by_cases R:k<l.length
  .
   obtain⟨b,af,rfl,S,E⟩:=I.row.cell k R;obtain⟨d,K⟩:=nm (l.getD k 0);have T:d<4294967296:=by rw[<-K];exact I.num.small.getD (by omega) k
   rw[K] at E;have H1:O (l.getD k 0=d):=K;clear K g hB;go_wp2;have F:O (Bl w wr):=q;clear q;go_loopw [7,8] (fun c j wr=>∃(i U:Nat) (rs:Vy),i<=m.length/\U<4294967296/\c=.int .u64 U/\j=.int .i64 i/\Blk .u32 233 wr w.heap.size rs/\rs.length=l.length+m.length/\Small 4294967296 rs/\
    val 4294967296 (rs.take (k+m.length))+4294967296 ^ (k+i)*U=val 4294967296 (l.take k)*y+4294967296 ^ k*(d*val 4294967296 (m.take i))/\Below w.heap.size w wr) (fun _ j _=>m.length - (intOf j).toNat)
   case atStart=>exact⟨0,0,rs,by omega,by omega,rfl,rfl,C.o,f.o,n.o,by rw[B.o];simp[val],F.o⟩
   case round=>
    clear C f n B F;obtain⟨i,c,rs,hi,hc,rfl,rfl,hB,g,h,D,q⟩:=hrel;have B:O (val 4294967296 (rs.take (k+m.length))+4294967296 ^ (k+i)*c=val 4294967296 (l.take k)*y+4294967296 ^ k*(d*val 4294967296 (m.take i))):=D;have f:O (rs.length=l.length+m.length):=g;have C:O (Blk .u32 233 wr w.heap.size rs):=hB;have n:O (Small 4294967296 rs):=h;clear D;by_cases G:i<m.length
    .
     obtain⟨b',ab,rfl,V,v⟩:=J.row.cell i G;obtain⟨e,L⟩:=nm (m.getD i 0);have W:e<4294967296:=by rw[<-L];exact J.num.small.getD (by omega) i
     rw[L] at v;have ad:=ce q S E;have ae:=ce q V v;have H2:O (m.getD i 0=e):=L;obtain⟨z,A⟩:=nm (rs.getD (k+i) 0);have ag:z<4294967296:=by rw[<-A];exact h.getD (by omega) _
     have g1:=hB.free (k+i);have X:=hB.cell (k+i) (by omega);rw[A] at X;have HZ:O (rs.getD (k+i) 0=z):=A;clear L v A hB g h;have hp:=Qd0 T W;obtain⟨t,M⟩:∃t:Nat,t=d*e:=⟨_,rfl⟩;have ah:(d:Int)*(e:Int)=(t:Int):=by rw[M];simp
     have ai:t<=18446744065119617025:=by rw[M];exact hp
     have HT:O (t=d*e):=M;clear M hp;have ev:O (((c:Int)+(t+z)) % 4294967296=(((c+(t+z)) % 4294967296:Nat):Int)):=by unfold O;omega
     have ec:O (((c:Int)+(t+z)) / 4294967296=(((c+(t+z)) / 4294967296:Nat):Int)):=by unfold O;omega
     go_wp2;go_region
     all_goals
      go_wp2;go_roundw
      case rel=>
       rw[ev.o,ec.o];exact⟨i+1,(c+(t+z)) / 4294967296,rs.set (k+i) ((c+(t+z)) % 4294967296),by omega,by omega,rfl,by go_num,(C.o.set (k+i) _).drew,by rw[List.length_set];exact f.o,n.o.set _ (by omega),Qos _ k i d e t _ c z _ rs m HT.o H2.o (by have:=f.o;omega) (by omega) HZ.o B.o,(q.setCell lZ _).drew⟩
      case measure=>simp[intOf];omega
    .
     obtain⟨z,A⟩:=nm (rs.getD (k+m.length) 0);have g1:=hB.free (k+m.length);have X:=hB.cell (k+m.length) (by omega);rw[A] at X;clear A hB g h;have hv2:val 4294967296 ((rs.set (k+m.length) c).take (k+1+m.length))=val 4294967296 (l.take (k+1))*y:=by
      have Y:i=m.length:=by omega
      have H:=B.o;rw[Y,List.take_length,J.num.eq] at H;exact Qot _ k d c y m.length rs l H1.o (by have:=f.o;omega) H
     have Z:O (val 4294967296 ((rs.set (k+m.length) c).take (k+1+m.length))=val 4294967296 (l.take (k+1))*y):=hv2;clear hv2;go_wp2;go_roundw
     case rel=>exact⟨k+1,rs.set (k+m.length) c,by omega,by go_num,C.o.set (k+m.length) c,by rw[List.length_set];exact f.o,n.o.set _ hc,Z.o,q.setCell lZ _⟩
     case measure=>simp[intOf];omega
  .
   have aa:val 4294967296 rs=x*y:=by
    have Y:k=l.length:=by omega
    have H:=B.o;rw[Y,List.take_length,List.take_of_length_le (by omega),I.num.eq] at H;exact H
   clear g hB;go_wp2_with fail;refine(Qa0 w.heap.size (l.length+m.length) (l.length+m.length) (x*y) rs _ C.o f.o n.o lZ N aa).mono ?_;rintro e w1 ⟨⟨a,p,r,rfl,hu⟩,rfl⟩;go_wp2;go_ret;exact⟨⟨a,p,r,rfl,hu⟩,q⟩
theorem Qoc{k:IntKind}{w:Vz}{c:Nat}{e:Vr}{v:Value}{l:Vy}(h:w.ownsRow c e 1 v l.length (l.map (fun n:Nat=>Value.int k n))):
 ∃a b,v=.slice a l.length b/\Row k w a b l:=by
 obtain⟨y,q⟩:=h;rcases q with ⟨rfl,r⟩|⟨g,b,d,rfl,z,j,m,s,t,o⟩
 .
  have:=List.length_eq_zero_iff.1 r;subst this;exact⟨none,0,rfl,Row.nil k w⟩
 .
  have f:g<w.heap.size:=by
   apply bC;intro A;rw[Array.getElem?_eq_none (by omega)] at j;cases j
  refine⟨_,b,rfl,m,.inr ⟨g,0,rfl,f⟩,fun i u=>⟨g,0,rfl,f,?_⟩⟩;have x:d[i]?=some (.int k ((l.getD i 0:Nat):Int)):=by
   have p:(d.toList.take (l.length*1))[i]?=(l.map (fun n:Nat=>Value.int k n))[i]?:=by rw[o]
   rw[List.getElem?_take_of_lt (by omega),Array.getElem?_toList] at p;rw[p];simp[u]
  simp[World.cell?,j,x]
theorem Qas(b a j:Nat):(⟨b,a,none⟩:Addr).add j=⟨b,a+j,none⟩:=by
 unfold Addr.add
 split
 . rename_i h;subst h;rfl
 . rfl
theorem Qod(x:Nat):val 4294967296 [x % 4294967296,x / 4294967296]=x:=by
 simp only[val];omega
theorem Qbt(X:Int)(w:Vz)(h:0<=X)(j:X<18446744073709551616):
 Calls prog 149 #[.int .u64 X] w fun e w'=>(∃a b r,e=.returned (.slice a r.length b)/\U32 w' a b r X.toNat/\r.length<=2)/\Below w.heap.size w w':=by
 obtain⟨x,rfl⟩:=Int.eq_ofNat_of_zero_le h;rw[Int.toNat_natCast];go_enter func149,ntmps149;go_wp2_with fail;have c:(x:Int) % 4294967296=((x % 4294967296:Nat):Int):=by omega
 have f:(x:Int) / 4294967296=((x / 4294967296:Nat):Int):=by omega
 have hB:Blk .u32 233 (w.alloc (Obj.cells #[Value.int IntKind.u32 ((x:Int) % 4294967296),Value.int IntKind.u32 ((x:Int) / 4294967296)] 233)) w.heap.size [x % 4294967296,x / 4294967296]:=by
  rw[c,f];exact Blk.new .u32 233 w [x % 4294967296,x / 4294967296]
 clear c f;refine(Qa0 w.heap.size 2 2 x [x % 4294967296,x / 4294967296] _ hB rfl ?_ lZ (by omega) (Qod x)).mono ?_
 .
  intro d i;simp at i;omega
 rintro e k ⟨⟨a,b,r,rfl,g⟩,rfl⟩;go_wp2;go_ret;exact⟨⟨a,b,r,rfl,g,g.num.length_le_of_lt (by omega) (by omega)⟩,bR.alloc lZ _⟩
theorem Qdt(a:Vx)(c:Nat)(l:Vy)(x:Nat)(w:Vz)(h:U32 w a c l x):
 Calls prog 191 #[.slice a l.length c] w fun e w'=>(∃a c,e=.returned (.slice a l.length c)/\U32 w' a c l x)/\Below w.heap.size w w':=by
 obtain⟨t,v,p,q,hz2⟩:=info_parts Tryz.info32;have y:=h.short;rcases h.row.shape with ⟨rfl,rfl⟩|⟨b,i,rfl,E⟩
 .
  have hl:=h.row.fit;have:l= []:=List.length_eq_zero_iff.1 (by omega);subst this;go_enter func191,ntmps191;go_wp2_with (at_builtin;refine wpList_append_own_none rfl _ _ 119 rfl w.heap.size 233 t 1 underlying119 v _ 0 [] rfl (World.ownsRow_nil _ _ _ _) rfl ?_);go_ret;exact⟨⟨none,0,rfl,h⟩,Below.refl _ _⟩
 .
  go_enter func191,ntmps191;go_wp2_with (at_builtin;refine wpList_append_own _ rfl _ _ 119 rfl w.heap.size 233 t (.int .u32 0) 1 4 underlying119 v p q hz2 rfl (by decide) _ 0 [] rfl (World.ownsRow_nil _ _ _ _) ⟨b,i,none⟩ l.length c (l.map (fun n:Nat=>Value.int .u32 n)) rfl (by simp) ?c1 ?c2 ?c3 ?c4 lZ ?_)
  case c1=>
   intro j u z;obtain⟨r,s⟩:=gZ z;have d:j<l.length:=by simpa using r
   obtain⟨A,m,B,_,C⟩:=h.row.cell j d;obtain⟨rfl,rfl⟩:b=A/\i=m:=by simpa using B
   rw[Qas,C,<-s];simp[d]
  case c2=>intro u s;obtain⟨n,_,rfl⟩:=List.mem_map.1 s;rfl
  case c3=>unfold maxLen;omega
  case c4=>omega
  .
   intro F G f g _;obtain⟨D,cap',rfl,o⟩:=Qoc f;clear f;go_wp2;go_ret;exact⟨⟨D,cap',rfl,o,h.num,y⟩,bR.grown g lZ (fun k hk=>by simp[Value.ownBlock] at hk)⟩
theorem or64(x y:Int)(a b i:Nat)(c:x=((2 ^ i*a:Nat):Int))(d:y=(b:Int))(e:b<2 ^ i)(f:2 ^ i*a+b<18446744073709551616):bits .or .u64 x y=((2 ^ i*a+b:Nat):Int):=by
 subst c;subst d;rw[u64_or_nat _ _ (by omega) (by omega),Nat.two_pow_add_eq_or_of_lt e]
theorem or64'(x y:Int)(a b i:Nat)(c:x=((2 ^ i*a:Nat):Int))(d:y=(b:Int))(e:b<2 ^ i)(f:2 ^ i*a+b<18446744073709551616):bits .or .u64 y x=((2 ^ i*a+b:Nat):Int):=by
 subst c;subst d;rw[u64_or_nat _ _ (by omega) (by omega),Nat.or_comm,Nat.two_pow_add_eq_or_of_lt e]
theorem or32'(x y:Int)(a b i:Nat)(c:x=((2 ^ i*a:Nat):Int))(d:y=(b:Int))(e:b<2 ^ i)(f:2 ^ i*a+b<4294967296):bits .or .u32 y x=((2 ^ i*a+b:Nat):Int):=by
 subst c;subst d;rw[u32_or_nat _ _ (by omega) (by omega),Nat.or_comm,Nat.two_pow_add_eq_or_of_lt e]
theorem Qhv(t:Nat)(h:0<t):nb (t / 2)+1=nb t:=by
 unfold nb;by_cases a:t=1
 · subst a;rfl
 ·
  rw[if_neg (by omega),if_neg (by omega)];have:t.log2=(t / 2).log2+1:=by
   rw[Nat.log2_def,if_pos (by omega)]
  omega
theorem Qoe(k b a:Nat)(h:b<2 ^ k)(c:0<a):nb (b+2 ^ k*a)=k+nb a:=by
 have e:=Qfr a;have f:nb (b+2 ^ k*a)≤k+nb a:=by
  apply nb_le;rw[Nat.pow_add];have:=Nat.mul_le_mul_left (2 ^ k) (show a+1≤2 ^ nb a by omega);rw[Nat.mul_add] at this;omega
 have g:k+nb a≤nb (b+2 ^ k*a):=by
  have d:2 ^ (nb a - 1)≤a:=Qh5 (by have:=Qdw c;omega);have i:2 ^ (k+(nb a - 1))≤b+2 ^ k*a:=by
   rw[Nat.pow_add];have:=Nat.mul_le_mul_left (2 ^ k) d;omega
  apply Classical.byContradiction;intro j;have l:=Qfr (b+2 ^ k*a);have m:2 ^ nb (b+2 ^ k*a)≤2 ^ (k+(nb a - 1)):=Nat.pow_le_pow_right (by omega) (by omega);omega
 omega
theorem Num.nb_eq{q:Nat}{l:List Nat}{n:Nat}(h:Num (2 ^ q) l n)(hl:0<l.length):nb n=q*(l.length - 1)+nb (l.getD (l.length - 1) 0):=by
 have c:0<l.getD (l.length - 1) 0:=by
  rcases h.trim with rfl|d
  · simp at hl
  · omega
 have e:=Qak (2 ^ q) l (l.length - 1) (by omega);have a:=Qao (2 ^ q) l (l.length - 1) (by omega);rw[show l.length - 1+1=l.length from by omega,List.drop_of_length_le (Nat.le_refl _)] at a;simp only[val,Nat.mul_zero,Nat.add_zero] at a;rw[h.eq,a,←Nat.pow_mul] at e;have b:=Qab (Nat.pow_pos (by omega)) (h.small.take (l.length - 1));rw[List.length_take,Nat.min_eq_left (by omega),←Nat.pow_mul] at b;rw[e,Qoe _ _ _ b c]
theorem Qhw(B j d e r:Nat)(rs l:List Nat)(a:j<rs.length)(hl:j<l.length)(b:l.getD j 0=e)(h:val B (rs.drop (j+1))*d+r=val B (l.drop (j+1))):
 val B ((rs.set j ((B*r+e) / d)).drop j)*d+(B*r+e) % d=val B (l.drop j):=by
 rw[Qao B l j hl,b,←h,Qcz _ j (by simp;omega),Qbh,List.drop_set_of_lt (by omega),List.getD_eq_getElem?_getD,List.getElem?_set_self a];have c:=Nat.div_add_mod (B*r+e) d;simp only[Option.getD_some,Nat.add_mul];rw[Nat.mul_comm d] at c;rw[Nat.mul_add,Nat.mul_assoc];omega
theorem Qfj{s:Nat}(a:s<32):2 ^ s≤2147483648:=by
 have:=Nat.pow_le_pow_right (n:=2) (by omega) (show s≤31 by omega);exact this
theorem Qfk{s:Nat}(a:s≤32):2 ^ s*2 ^ (32 - s)=4294967296:=by
 rw[←Nat.pow_add,show s+(32 - s)=32 from by omega]
theorem Qdu(d s:Nat)(a:s≤32):d*2 ^ s % 4294967296=2 ^ s*(d % 2 ^ (32 - s)):=by
 rw[←Qfk a,Nat.mul_comm d,Nat.mul_mod_mul_left]
theorem Qof(d s:Nat)(a:s≤32):d*2 ^ s % 4294967296+2 ^ s≤4294967296:=by
 rw[Qdu d s a];have b:d % 2 ^ (32 - s)+1≤2 ^ (32 - s):=Nat.mod_lt _ (Nat.pow_pos (by omega));have c:=Nat.mul_le_mul_left (2 ^ s) b;rw[Qfk a,Nat.mul_add] at c;omega
theorem Qcc(n:Nat)(h:n<18446744073709551616):IntKind.u64.wrap (n:Int)=(n:Int):=by
 simp[IntKind.wrap,IntKind.signed,IntKind.bits];omega
theorem Qog(d s z:Nat)(a:s<32)(b:d<4294967296)(c:z<2 ^ s):
 bits .or .u32 (z:Int) (IntKind.u64.wrap ((d:Int)*2 ^ (s % 32)) % 4294967296)=((d*2 ^ s % 4294967296+z:Nat):Int)∧
 bits .or .u32 0 (IntKind.u64.wrap ((d:Int)*2 ^ (s % 32)) / 4294967296 % 4294967296)=((d*2 ^ s / 4294967296:Nat):Int)∧
 d*2 ^ s % 4294967296+z<4294967296∧d*2 ^ s / 4294967296<2 ^ s:=by
 have e:=Qfj a;have h:d*2 ^ s≤4294967295*2147483648:=Nat.mul_le_mul (by omega) e;have i:=Qof d s (by omega);have f:d*2 ^ s / 4294967296<2 ^ s:=by
  rw[Nat.div_lt_iff_lt_mul (by omega),Nat.mul_comm (2 ^ s)];exact Nat.mul_lt_mul_of_pos_right b (Nat.pow_pos (by omega))
 have g:IntKind.u64.wrap ((d:Int)*2 ^ (s % 32))=((d*2 ^ s:Nat):Int):=by
  rw[Nat.mod_eq_of_lt a];have:((d:Int)*2 ^ s)=((d*2 ^ s:Nat):Int):=by simp
  rw[this,Qcc _ (by omega)]
 rw[g];refine⟨?_,?_,by omega,f⟩
 · rw[or32' (((d*2 ^ s:Nat):Int) % 4294967296) (z:Int) (d % 2 ^ (32 - s)) z s (by rw[←Qdu d s (by omega)];omega) rfl c (by rw[←Qdu d s (by omega)];omega),←Qdu d s (by omega)]
 ·
  rw[show (((d*2 ^ s:Nat):Int) / 4294967296 % 4294967296)=((d*2 ^ s / 4294967296:Nat):Int) from by omega];have:=u32_or_nat 0 (d*2 ^ s / 4294967296) (by omega) (by omega);rw[Nat.zero_or] at this;exact this
theorem Qoh(k d s z:Nat)(rs l:List Nat)(hk:k+1<rs.length)(a:l.getD k 0=d)(b:rs.getD k 0=z)(h:val 4294967296 (rs.take (k+1))=val 4294967296 (l.take k)*2 ^ s):
 val 4294967296 (((rs.set k (d*2 ^ s % 4294967296+z)).set (k+1) (d*2 ^ s / 4294967296)).take (k+1+1))=val 4294967296 (l.take (k+1))*2 ^ s:=by
 rw[take_set _ _ _ (by simp;omega),Qal,List.length_take,Nat.min_eq_left (by simp;omega),take_set _ _ _ (by omega),Qal,List.length_take,Nat.min_eq_left (by omega)];rw[Qae,b] at h;rw[Qae _ l,a,Nat.add_mul,←h,Nat.pow_succ,Nat.mul_add,Nat.mul_assoc (4294967296 ^ k) d];have e:=Nat.mod_add_div (d*2 ^ s) 4294967296;have c:4294967296 ^ k*(d*2 ^ s % 4294967296+4294967296*(d*2 ^ s / 4294967296))=4294967296 ^ k*(d*2 ^ s):=by rw[e]
 rw[Nat.mul_add,←Nat.mul_assoc] at c;omega
theorem Qoi(d e s:Nat)(k:s<32)(l:d<4294967296):((4294967296*e+d) / 2 ^ s % 4294967296)*2 ^ s+d % 2 ^ s=d+4294967296*(e % 2 ^ s):=by
 have b:0<2 ^ s:=Nat.pow_pos (by omega);have a:=Qfk (s:=s) (by omega);generalize hP:2 ^ s=p at*;generalize hT:2 ^ (32 - s)=t at*;have c:(4294967296*e+d) / p=t*e+d / p:=by
  rw[←a,Nat.mul_assoc,Nat.mul_add_div b]
 have f:=Nat.div_add_mod e p;have g:t*e=4294967296*(e / p)+t*(e % p):=by
  conv=>lhs;rw[←f]
  rw[Nat.mul_add,←Nat.mul_assoc,Nat.mul_comm t p,a]
 have m:d / p<t:=by rw[Nat.div_lt_iff_lt_mul b,Nat.mul_comm];omega
 have h:e % p+1≤p:=Nat.mod_lt _ b;have i:=Nat.mul_le_mul_left t h;rw[Nat.mul_add,Nat.mul_comm t p,a] at i;rw[c,g,Nat.add_assoc,Nat.mul_add_mod,Nat.mod_eq_of_lt (by omega),Nat.add_mul];have j:=Nat.div_add_mod d p;rw[Nat.mul_comm p] at j;have n:t*(e % p)*p=4294967296*(e % p):=by
  rw[Nat.mul_comm (t*(e % p)) p,←Nat.mul_assoc,a]
 omega
theorem Qhx(k d e s m0:Nat)(rs l:List Nat)(c:s<32)(a:d<4294967296)(hk:k<rs.length)(b:l.getD k 0=d)(f:l.getD (k+1) 0=e)
 (h:val 4294967296 (rs.take k)*2 ^ s+m0=val 4294967296 (l.take k)+4294967296 ^ k*(l.getD k 0 % 2 ^ s)):
 val 4294967296 ((rs.set k ((4294967296*e+d) / 2 ^ s % 4294967296)).take (k+1))*2 ^ s+m0=val 4294967296 (l.take (k+1))+4294967296 ^ (k+1)*(l.getD (k+1) 0 % 2 ^ s):=by
 have g:=Qoi d e s c a;rw[take_set _ _ _ hk,Qal,List.length_take,Nat.min_eq_left (by omega),Qae _ l,b,f,Nat.add_mul,Nat.pow_succ];rw[b] at h;have i:4294967296 ^ k*(((4294967296*e+d) / 2 ^ s % 4294967296)*2 ^ s+d % 2 ^ s)=4294967296 ^ k*(d+4294967296*(e % 2 ^ s)):=by rw[g]
 rw[Nat.mul_add,Nat.mul_add,←Nat.mul_assoc,←Nat.mul_assoc] at i;omega
theorem Qhy(v s:Nat)(a:s<32):(v:Int) / 2 ^ (s % 32) % 4294967296=((v / 2 ^ s % 4294967296:Nat):Int):=by
 rw[Nat.mod_eq_of_lt a];simp
theorem Qcb(a:Vx)(g:Nat)(l:Vy)(x:Nat)(w:Vz)(h:U32 w a g l x)(hl:l.length<=2):
 Calls prog 234 #[.slice a l.length g] w fun e w'=>e=.returned (.int .u64 x)/\w'=w:=by
 have c:=h.num.eq
 match l,hl,h,c with
 | [],_,h,c=>
   simp only[val] at c;subst c;go_enter func234,ntmps234;go_wp2;go_ret;exact⟨rfl,rfl⟩
 | [d],_,h,c=>
   obtain⟨b,i,rfl,k,f⟩:=h.row.cell 0 (by simp);have n:=h.num.small d (by simp);simp[val] at c f;subst c;clear h;go_enter func234,ntmps234;go_wp2;go_ret;exact⟨rfl,rfl⟩
 | [d,e],_,h,c=>
   obtain⟨b,i,rfl,k,f⟩:=h.row.cell 0 (by simp);obtain⟨p,j,o,q,m⟩:=h.row.cell 1 (by simp);obtain⟨rfl,rfl⟩:b=p/\i=j:=by simpa using o
   have n:=h.num.small d (by simp);have s:=h.num.small e (by simp);simp[val] at c f m;have t:O (d+4294967296*e=x):=c;have r:bits .or .u64 (d:Int) ((e:Int)*4294967296)=(x:Int):=by
    rw[or64' ((e:Int)*4294967296) (d:Int) e d 32 (by omega) rfl n (by omega)];omega
   clear h o c;go_enter func234,ntmps234;go_wp2;go_ret;exact⟨rfl,rfl⟩
theorem Qn7(a:Vx)(c d:Nat)(l:Vy)(x:Nat)(w:Vz)(h:U32 w a c l x)(g:0<d)(hd:d<4294967296):
 Calls prog 192 #[.slice a l.length c,.int .u32 d] w fun e w'=>(∃a c r,e=.returned (.tuple #[.slice a r.length c,.int .u32 (x % d:Nat)])/\U32 w' a c r (x / d))/\Below w.heap.size w w':=by
 have s1:=h.short;have D:=
  fun w=>Qa5 _ l.length rfl (by omega) w
 go_enter func192,ntmps192;go_wp2;clear D;go_loopw [7,8] (fun r i wr=>∃(k f:Nat) (rs:Vy),k<=l.length/\f<d/\r=.int .u64 f/\i=.int .i64 ((k:Int) - 1)/\Blk .u32 233 wr w.heap.size rs/\rs.length=l.length/\Small 4294967296 rs/\
  val 4294967296 (rs.drop k)*d+f=val 4294967296 (l.drop k)/\Below w.heap.size w wr) (fun _ i _=>(intOf i+1).toNat)
 case atStart=>exact⟨l.length,0,zeros l.length,Nat.le_refl _,g,rfl,rfl,Blk.new _ _ _ _,Qag _,Qam _ _ (by omega),by rw[List.drop_of_length_le (by rw[Qag];exact Nat.le_refl _),List.drop_of_length_le lZ];simp[val],bR.alloc lZ _⟩
 case round=>
  obtain⟨k,r,rs,hk,K,rfl,rfl,hB,n,y,L,E⟩:=hrel;have M:O (val 4294967296 (rs.drop k)*d+r=val 4294967296 (l.drop k)):=L;have p:O (rs.length=l.length):=n;have N:O (Blk .u32 233 wr w.heap.size rs):=hB;have A:O (Small 4294967296 rs):=y;clear L y;by_cases U:k=0
  .
   subst U;have B:=M.o;simp only[List.drop_zero,h.num.eq] at B;have t:val 4294967296 rs=x / d:=by
    rw[<-B,Nat.mul_comm,Nat.mul_add_div g,Nat.div_eq_of_lt K,Nat.add_zero]
   have P:x % d=r:=by
    rw[<-B,Nat.mul_comm,Nat.mul_add_mod,Nat.mod_eq_of_lt K]
   have V:O (x % d=r):=P;clear n hB B P;have W:O (val 4294967296 rs=x / d):=t;clear t;go_wp2_with fail;refine(Qa0 w.heap.size l.length l.length (x / d) rs _ N.o p.o A.o lZ (by omega) W.o).mono ?_;rintro e w1 ⟨⟨a,c,r,rfl,X⟩,rfl⟩;go_wp2;go_ret2;exact⟨⟨a,c,r,by rw[V.o];rfl,X⟩,E⟩
  .
   obtain⟨j,rfl⟩:∃j,k=j+1:=⟨k - 1,by omega⟩;obtain⟨b,Y,rfl,F,u⟩:=h.row.cell j (by omega);obtain⟨e,C⟩:=nm (l.getD j 0);have G:e<4294967296:=by rw[<-C];exact h.num.small.getD (by omega) j
   rw[C] at u;have Q:=ce E F u;have Z:O (l.getD j 0=e):=C;obtain⟨z,R⟩:=nm (rs.getD j 0);have g1:=hB.free j;have g2:=hB.cell j (by omega);rw[R] at g2;clear C u R hB n;have S:((j+1:Nat):Int) - 1=(j:Int):=by omega
   rw[S];clear S;have aa:((d:Int) == 0)=false:=by rw[beq_eq_false_iff_ne];omega
   obtain⟨s,T⟩:=nm (4294967296*r+e);have ab:bits .or .u64 ((r:Int)*4294967296) (e:Int)=(s:Int):=by
    rw[or64 ((r:Int)*4294967296) (e:Int) r e 32 (by omega) rfl G (by omega)];omega
   obtain⟨q,t⟩:=nm (s / d);obtain⟨f,m⟩:∃f,s % d=f:=⟨_,rfl⟩;have H:q<4294967296:=by
    rw[<-t,Nat.div_lt_iff_lt_mul g];have:=Nat.mul_le_mul_left 4294967296 (show r+1<=d by omega);omega
   have I:f<d:=by rw[<-m];exact Nat.mod_lt _ g
   have v:=Qhw 4294967296 j d e r rs l (by have:=p.o;omega) (by omega) Z.o M.o;rw[T,t,m] at v;have t1:(s:Int) / (d:Int)=(q:Int):=by rw[<-t];simp
   have t2:(s:Int) % (d:Int)=(f:Int):=by rw[<-m];simp
   have ad:s<18446744073709551616:=by omega
   have J:O (val 4294967296 ((rs.set j q).drop j)*d+f=val 4294967296 (l.drop j)):=v;clear t m v T;go_wp2;go_roundw
   case rel=>exact⟨j,f,rs.set j q,by omega,I,by rw[t2],rfl,N.o.set j q,by rw[List.length_set];exact p.o,A.o.set j H,J.o,E.setCell lZ _⟩
   case measure=>simp[intOf]
theorem Qn8(a:Vx)(f:Nat)(l:Vy)(x:Nat)(w:Vz)(h:U32 w a f l x):
 Calls prog 235 #[.slice a l.length f] w fun e w'=>e=.returned (.int .i64 (nb x))/\w'=w:=by
 have C:=h.short;by_cases i:l.length=0
 .
  have D:=(h.num.len_zero (by omega)).2 i;have s:((l.length:Int) == 0)=true:=by simp[i]
  subst D;clear i;go_enter func235,ntmps235;go_wp2;go_ret;exact⟨rfl,rfl⟩
 .
  have s:((l.length:Int) == 0)=false:=by rw[beq_eq_false_iff_ne];omega
  have c:=Num.nb_eq (q:=32) h.num (by omega);obtain⟨b,E,rfl,F,d⟩:=h.row.cell (l.length - 1) (by omega);obtain⟨t,k⟩:=nm (l.getD (l.length - 1) 0);have p:t<4294967296:=by rw[<-k];exact h.num.small.getD (by omega) _
  have G:nb t<=32:=nb_le (by omega);rw[k] at d c;have r:O (nb x=32*(l.length - 1)+nb t):=c;clear k c;obtain⟨j,y⟩:∃j,l.length=j+1:=⟨l.length - 1,by omega⟩;rw[y] at d r s C ⊢;clear y i;simp only[Nat.add_sub_cancel] at d r;go_enter func235,ntmps235;go_wp2;go_loop [3,4] (fun n v=>∃m u:Nat,nb u+m=nb t/\u<4294967296/\n=.int .i64 m/\v=.int .u32 u) (fun n v=>nb (intOf v).toNat)
  case atStart=>exact⟨0,t,rfl,p,rfl,rfl⟩
  case round=>
   obtain⟨m,u,g,H,rfl,rfl⟩:=hrel;have z:O (nb u+m=nb t):=g;have A:m<=32:=by omega
   clear g;by_cases I:u=0
   .
    subst I;have J:(((0:Nat):Int) != 0)=false:=by simp
    go_wp2;go_ret;refine⟨?_,rfl⟩;have B:=z.o;have K:=r.o;rw[Qop] at B;exact congrArg (fun n:Int=>Ending.returned (.int .i64 n)) (by omega)
   .
    have J:((u:Int) != 0)=true:=by rw[bne_iff_ne];omega
    go_wp2;go_round
    case rel=>exact⟨m+1,u / 2,by have:=Qhv u (by omega);have:=z.o;omega,by omega,by go_num,congrArg (Value.int IntKind.u32) (by omega)⟩
    case measure=>
     have B:=Qhv u (by omega)
     show nb (((u:Int) / 2).toNat)<nb ((u:Int).toNat)
     rw[show ((u:Int) / 2).toNat=u / 2 from by omega,Int.toNat_natCast];omega
theorem Qhs(a:Vx)(c s:Nat)(l:Vy)(x:Nat)(w:Vz)(h:U32 w a c l x)(E:s<32)(M:0<l.length)(hl:l.length<1099511627776):
 Calls prog 236 #[.slice a l.length c,.int .u64 s] w fun e w'=>(∃a c r,e=.returned (.slice a r.length c)/\U32 w' a c r (x*2 ^ s))/\Below w.heap.size w w':=by
 have q1:((l.length:Int) == 0)=false:=by rw[beq_eq_false_iff_ne];omega
 have N:(s:Int) / 32=0:=by omega
 have P:(s:Int) % 32=s:=by omega
 have v:∀w,(Instr.makeSlice 119 (.int .i64 ((l.length:Int)+1)) (.int .i64 ((l.length:Int)+1))).run prog w=.ok (.slice (some ⟨w.heap.size,0,none⟩) (l.length+1) (l.length+1)) (w.alloc (.cells (wordCells .u32 (zeros (l.length+1))) 233)):=
  fun w=>Qa5 _ (l.length+1) (by omega) (by omega) w
 go_enter func236,ntmps236;go_wp2;clear v N P;go_loopw [8] (fun i wr=>∃(k:Nat) (rs:Vy),k<=l.length/\i=.int .i64 k/\Blk .u32 233 wr w.heap.size rs/\rs.length=l.length+1/\Small 4294967296 rs/\rs.getD k 0<2 ^ s/\(∀j,k<j->rs.getD j 0=0)/\
  val 4294967296 (rs.take (k+1))=val 4294967296 (l.take k)*2 ^ s/\Below w.heap.size w wr) (fun i _=>l.length - (intOf i).toNat)
 case atStart=>exact⟨0,zeros (l.length+1),by omega,rfl,Blk.new _ _ _ _,Qag _,Qam _ _ (by omega),by rw[Qb2];exact Nat.pow_pos (by omega),fun j _=>Qb2 _ j,by rw[Qae,Qb2];simp[val],bR.alloc lZ _⟩
 case round=>
  obtain⟨k,rs,hk,rfl,hB,g,p,f,hz2,F,y⟩:=hrel;have G:O (val 4294967296 (rs.take (k+1))=val 4294967296 (l.take k)*2 ^ s):=F;have m:O (rs.length=l.length+1):=g;have H:O (Blk .u32 233 wr w.heap.size rs):=hB;have q:O (Small 4294967296 rs):=p;clear F p;by_cases A:k<l.length
  .
   obtain⟨b,Q,rfl,B,n⟩:=h.row.cell k A;obtain⟨d,u⟩:=nm (l.getD k 0);have C:d<4294967296:=by rw[<-u];exact h.num.small.getD (by omega) k
   rw[u] at n;have I:=ce y B n;have g1:=hB.free k;have R:=hB.cell k (by omega);have g3:=hB.free (k+1);have S:=hB.cell (k+1) (by omega);rw[hz2 (k+1) (by omega)] at S;obtain⟨z,D⟩:=nm (rs.getD k 0);rw[D] at R f;have J:=Qog d s z E C f;have K:=Qoh k d s z rs l (by omega) u D G.o;have T:O (∀j,k<j->rs.getD j 0=0):=hz2;have U:O (bits .or .u32 (z:Int) (IntKind.u64.wrap ((d:Int)*2 ^ (s % 32)) % 4294967296)=((d*2 ^ s % 4294967296+z:Nat):Int)/\
    bits .or .u32 0 (IntKind.u64.wrap ((d:Int)*2 ^ (s % 32)) / 4294967296 % 4294967296)=((d*2 ^ s / 4294967296:Nat):Int)/\
    d*2 ^ s % 4294967296+z<4294967296/\d*2 ^ s / 4294967296<2 ^ s):=J
   have V:O (val 4294967296 (((rs.set k (d*2 ^ s % 4294967296+z)).set (k+1) (d*2 ^ s / 4294967296)).take (k+1+1))=val 4294967296 (l.take (k+1))*2 ^ s):=K;clear u n D hB g f hz2 J K;go_wp2;go_roundw
   case rel=>
    obtain⟨W,X,Y,Z⟩:=U.o;rw[W,X];have hp:=Qfj E;refine⟨k+1,(rs.set k (d*2 ^ s % 4294967296+z)).set (k+1) (d*2 ^ s / 4294967296),by omega,by go_num,(H.o.set k _).set (k+1) _,by rw[List.length_set,List.length_set];exact m.o,(q.o.set k Y).set (k+1) (by omega),?_,fun j hj=>?_,V.o,(y.setCell lZ _).setCell lZ _⟩
    . rw[Qbj _ _ _ (by rw[List.length_set,m.o];omega)];exact Z
    . rw[getD_set_ne _ _ _ _ (by omega),getD_set_ne _ _ _ _ (by omega)];exact T.o j (by omega)
   case measure=>simp[intOf];omega
  .
   have t:val 4294967296 rs=x*2 ^ s:=by
    have e1:k=l.length:=by omega
    have L:=G.o;rw[e1,List.take_length,List.take_of_length_le (by omega),h.num.eq] at L;exact L
   have HQ:O (val 4294967296 rs=x*2 ^ s):=t;clear g hB t f hz2;go_wp2_with fail;refine(Qa0 w.heap.size (l.length+1) (l.length+1) (x*2 ^ s) rs _ H.o m.o q.o lZ (by omega) HQ.o).mono ?_;rintro e w1 ⟨⟨a,c,r,rfl,hu⟩,rfl⟩;go_wp2;go_ret;exact⟨⟨a,c,r,rfl,hu⟩,y⟩
theorem Qn9(a:Vx)(c s:Nat)(l:Vy)(x:Nat)(w:Vz)(h:U32 w a c l x)(E:s<32):
 Calls prog 237 #[.slice a l.length c,.int .u64 s] w fun e w'=>(∃a c r,e=.returned (.slice a r.length c)/\U32 w' a c r (x / 2 ^ s))/\Below w.heap.size w w':=by
 have s1:=h.short;have X:(s:Int) / 32=0:=by omega
 have Y:(s:Int) % 32=s:=by omega
 by_cases g:l.length=0
 .
  have Z:=(h.num.len_zero (by omega)).2 g;subst Z;rw[g];clear g;go_enter func237,ntmps237;go_wp2;go_ret;exact⟨⟨none,0,[],rfl,by rw[Nat.zero_div];exact⟨Row.nil _ _,Num.zero _,by simp⟩⟩,Below.refl _ _⟩
 have I:=
  fun w=>Qa5 _ l.length rfl (by omega) w
 go_enter func237,ntmps237;go_wp2;clear I X Y;go_loopw [8] (fun i wr=>∃(k:Nat) (rs:Vy),k<=l.length/\i=.int .i64 k/\Blk .u32 233 wr w.heap.size rs/\rs.length=l.length/\Small 4294967296 rs/\
  val 4294967296 (rs.take k)*2 ^ s+l.getD 0 0 % 2 ^ s=val 4294967296 (l.take k)+4294967296 ^ k*(l.getD k 0 % 2 ^ s)/\Below w.heap.size w wr) (fun i _=>l.length - (intOf i).toNat)
 case atStart=>exact⟨0,zeros l.length,by omega,rfl,Blk.new _ _ _ _,Qag _,Qam _ _ (by omega),by simp[val],bR.alloc lZ _⟩
 case round=>
  obtain⟨k,rs,hk,rfl,hB,j,u,y,A⟩:=hrel;have J:O (val 4294967296 (rs.take k)*2 ^ s+l.getD 0 0 % 2 ^ s=val 4294967296 (l.take k)+4294967296 ^ k*(l.getD k 0 % 2 ^ s)):=y;have f:O (rs.length=l.length):=j;have K:O (Blk .u32 233 wr w.heap.size rs):=hB;have m:O (Small 4294967296 rs):=u;clear y u;by_cases L:k<l.length
  .
   obtain⟨b,M,rfl,N,n⟩:=h.row.cell k L;obtain⟨d,F⟩:=nm (l.getD k 0);have p:d<4294967296:=by rw[<-F];exact h.num.small.getD (by omega) k
   rw[F] at n;have R:=ce A N n;have g1:=hB.free k;have g2:=hB.cell k (by omega);obtain⟨z,S⟩:=nm (rs.getD k 0);rw[S] at g2;have T:O (l.getD k 0=d):=F;clear F n S hB j;by_cases B:k+1<l.length
   .
    obtain⟨b',C,G,P,q⟩:=h.row.cell (k+1) B;obtain⟨rfl,rfl⟩:b=b'/\M=C:=by simpa using G
    obtain⟨e,H⟩:=nm (l.getD (k+1) 0);have aa:e<4294967296:=by rw[<-H];exact h.num.small.getD (by omega) _
    rw[H] at q;have U:=ce A P q;have H2:O (l.getD (k+1) 0=e):=H;obtain⟨v,y⟩:=nm (4294967296*e+d);have ab:bits .or .u64 (d:Int) ((e:Int)*4294967296)=(v:Int):=by
     rw[or64' ((e:Int)*4294967296) (d:Int) e d 32 (by omega) rfl p (by omega)];omega
    have ad:v<18446744073709551616:=by omega
    have H3:O (4294967296*e+d=v):=y;clear H q G y;have t:=Qhx k d e s (l.getD 0 0 % 2 ^ s) rs l E p (by have:=f.o;omega) T.o H2.o J.o;rw[H3.o] at t;have Q:O (val 4294967296 ((rs.set k (v / 2 ^ s % 4294967296)).take (k+1))*2 ^ s+l.getD 0 0 % 2 ^ s=val 4294967296 (l.take (k+1))+4294967296 ^ (k+1)*(l.getD (k+1) 0 % 2 ^ s)):=t;clear t;go_wp2;go_roundw
    case rel=>
     rw[Qhy v s E];exact⟨k+1,rs.set k (v / 2 ^ s % 4294967296),by omega,by go_num,K.o.set k _,by rw[List.length_set];exact f.o,m.o.set k (Nat.mod_lt _ (by omega)),Q.o,A.setCell lZ _⟩
    case measure=>simp[intOf];omega
   .
    have t:=Qhx k d 0 s (l.getD 0 0 % 2 ^ s) rs l E p (by have:=f.o;omega) T.o (Qbw l (k+1) (by omega)) J.o;rw[Nat.mul_zero,Nat.zero_add] at t;have Q:O (val 4294967296 ((rs.set k (d / 2 ^ s % 4294967296)).take (k+1))*2 ^ s+l.getD 0 0 % 2 ^ s=val 4294967296 (l.take (k+1))+4294967296 ^ (k+1)*(l.getD (k+1) 0 % 2 ^ s)):=t;clear t;go_wp2;go_roundw
    case rel=>
     rw[Qhy d s E];exact⟨k+1,rs.set k (d / 2 ^ s % 4294967296),by omega,by go_num,K.o.set k _,by rw[List.length_set];exact f.o,m.o.set k (Nat.mod_lt _ (by omega)),Q.o,A.setCell lZ _⟩
    case measure=>simp[intOf];omega
  .
   have D:val 4294967296 rs=x / 2 ^ s:=by
    have G:k=l.length:=by omega
    have V:=J.o;have W:0<2 ^ s:=Nat.pow_pos (by omega);rw[G,List.take_length,List.take_of_length_le (by omega),Qbw l _ lZ,h.num.eq,Nat.zero_mod,Nat.mul_zero,Nat.add_zero] at V;rw[<-V,Nat.mul_comm,Nat.mul_add_div W,Nat.div_eq_of_lt (Nat.mod_lt _ W),Nat.add_zero]
   have HQ:O (val 4294967296 rs=x / 2 ^ s):=D;clear j hB D;go_wp2_with fail;refine(Qa0 w.heap.size l.length l.length (x / 2 ^ s) rs _ K.o f.o m.o lZ (by omega) HQ.o).mono ?_;rintro e w1 ⟨⟨a,c,r,rfl,hu⟩,rfl⟩;go_wp2;go_ret;exact⟨⟨a,c,r,rfl,hu⟩,A⟩
theorem Qjz(B P h b e a f g W V:Nat)(l:0<P)(hB:0<B)(hW:W=h*(B*P)+b*P+e)(m:V=a*(B*P)+f*P+g)(i:e<P)(c:b<B)(d:0<a):W / V≤h / a:=by
 rw[Nat.le_div_iff_mul_le d];apply Classical.byContradiction;intro n;have o:=Nat.div_mul_le_self W V;have j:(h+1)*(B*P)≤W / V*a*(B*P):=Nat.mul_le_mul_right _ (by omega);have p:W / V*a*(B*P)≤W / V*V:=by
  rw[Nat.mul_assoc];apply Nat.mul_le_mul_left;omega
 have k:(b+1)*P≤B*P:=Nat.mul_le_mul_right _ c;rw[Nat.add_mul,Nat.one_mul] at j k;omega
theorem Qf9(B P h b d e a f W V g r:Nat)(n:0<P)(hW:W=h*(B*P)+b*P+d)(i:V=e*(B*P)+a*P+f)(j:d<P)(c:0<V)
 (k:g*e+r=h) (l:r*B+b<g*a):W / V<g:=by
 rw[Nat.div_lt_iff_lt_mul c,i,Nat.mul_add,Nat.mul_add,hW,←k,Nat.add_mul,Nat.mul_assoc];have m:(r*B+b+1)*P≤g*a*P:=Nat.mul_le_mul_right _ l;rw[Nat.add_mul,Nat.add_mul,Nat.one_mul,Nat.mul_assoc] at m;rw[←Nat.mul_assoc g a P];omega
theorem Qrw(B P h f k b d j W V g r:Nat)(l:0<P)(hW:W=h*(B*P)+f*P+k)(u:V=b*(B*P)+d*P+j)(m:j<P)(e:0<b)
 (n:g*b+r=h) (o:g<B) (v:g*d≤r*B+f):g≤W / V+1:=by
 apply Classical.byContradiction;intro w;have i:0<V:=by
  have:0<b*(B*P):=Nat.mul_pos e (Nat.mul_pos (by omega) l);omega
 obtain⟨c,rfl⟩:∃c,g=c+1:=⟨g - 1,by have:=Nat.zero_le (W / V);omega⟩;have x:W<c*V:=(Nat.div_lt_iff_lt_mul i).1 (by omega);have y:(c+1)*(b*B+d)*P≤W:=by
  have p:(c+1)*(b*B+d)≤h*B+f:=by
   rw[←n,Nat.mul_add,Nat.add_mul _ _ B,←Nat.mul_assoc];omega
  have q:=Nat.mul_le_mul_right P p;rw[Nat.add_mul _ _ P,Nat.mul_assoc h B P] at q;omega
 have s:V≤(b*B+d+1)*P:=by
  rw[Nat.add_mul,Nat.add_mul,Nat.one_mul,Nat.mul_assoc];omega
 have z:c*V≤c*(b*B+d+1)*P:=by
  rw[Nat.mul_assoc];exact Nat.mul_le_mul_left _ s
 have t:(c+1)*(b*B+d)<c*(b*B+d+1):=by
  apply Nat.lt_of_mul_lt_mul_right (a:=P);omega
 rw[Nat.add_mul,Nat.one_mul,Nat.mul_add c (b*B+d) 1,Nat.mul_one] at t;have A:1*B≤b*B:=Nat.mul_le_mul_right _ e;omega
theorem Qrx(B c d b g r:Nat)(e:c≤b)(f:d<B)(h:g*b+r=c*B+d)(i:B≤r):g<B:=by
 apply Nat.lt_of_mul_lt_mul_right (a:=b);have:c*B≤b*B:=Nat.mul_le_mul_right _ e;rw[Nat.mul_comm B b];omega
theorem Qj0(B g a r b:Nat)(d:g<B)(e:a<B)(c:B≤r):g*a≤r*B+b:=by
 have f:g*a≤B*B:=Nat.mul_le_mul (by omega) (by omega);have h:B*B≤r*B:=Nat.mul_le_mul_right _ c;omega
theorem Qj1(B:Nat)(us:List Nat)(j n:Nat)(h:j+n+3≤us.length)(a:val B (us.drop (j+n+3))=0):
 val B (us.drop j)=(us.getD (j+n+2) 0*B+us.getD (j+n+1) 0)*(B*B ^ n)+us.getD (j+n) 0*B ^ n+val B ((us.drop j).take n):=by
 rw[Qak B (us.drop j) n (by rw[List.length_drop];omega),List.drop_drop,Qao B us (j+n) (by omega),Qao B us (j+n+1) (by omega),Qao B us (j+n+2) (by omega),a];simp only[Nat.mul_zero,Nat.add_zero];have b:B ^ n*(us.getD (j+n) 0+B*(us.getD (j+n+1) 0+B*us.getD (j+n+2) 0))=(us.getD (j+n+2) 0*B+us.getD (j+n+1) 0)*(B*B ^ n)+us.getD (j+n) 0*B ^ n:=by
  generalize us.getD (j+n) 0=x;generalize us.getD (j+n+1) 0=y;generalize us.getD (j+n+2) 0=z;generalize B ^ n=P;rw[Nat.mul_add,Nat.mul_comm P x,Nat.mul_left_comm P B,Nat.mul_left_comm (z*B+y) B P,Nat.mul_comm P,Nat.add_comm,Nat.add_comm y,Nat.mul_comm B z]
 omega
theorem Qj2(B:Nat)(v:List Nat)(n:Nat)(h:v.length=n+2):
 val B v=v.getD (n+1) 0*(B*B ^ n)+v.getD n 0*B ^ n+val B (v.take n):=by
 rw[Qak B v n (by omega),Qao B v n (by omega),Qao B v (n+1) (by omega),List.drop_of_length_le (by omega)];simp only[val,Nat.mul_zero,Nat.add_zero];have a:B ^ n*(v.getD n 0+B*v.getD (n+1) 0)=v.getD (n+1) 0*(B*B ^ n)+v.getD n 0*B ^ n:=by
  generalize v.getD n 0=x;generalize v.getD (n+1) 0=y;generalize B ^ n=P;rw[Nat.mul_add,Nat.mul_comm P x,Nat.mul_left_comm P B y,Nat.mul_left_comm y B P,Nat.mul_comm P y,Nat.add_comm]
 omega
theorem Qga(B:Nat)(hB:0<B)(us:List Nat)(p:Nat)(h:val B us<B ^ p)(a:p≤us.length):val B (us.drop p)=0:=by
 rw[Qak B us p a] at h;apply Classical.byContradiction;intro b;have:=Nat.mul_le_mul_left (B ^ p) (show 1≤val B (us.drop p) by omega);omega
theorem Qry(B j i q a c d g b f k R:Nat)(us v:List Nat)(u:q≤us.length)(l:j+i<q)(m:us.getD (j+i) 0=a)(n:v.getD i 0=b)(o:f+(c+g*b) % B+d=a+B*k)
 (h:val B (us.take q)+B ^ j*(g*val B (v.take i))=R+B ^ (j+i)*(c+d)):
 val B ((us.set (j+i) f).take q)+B ^ j*(g*val B (v.take (i+1)))=R+B ^ (j+(i+1))*((c+g*b) / B+k):=by
 rw[Qh9];have p:=Qbi B (us.take q) (j+i) f (by rw[List.length_take];omega);rw[Qfu _ _ _ l,m] at p;have e:=Nat.mod_add_div (c+g*b) B;rw[Qae,n,Nat.mul_add g,Nat.mul_add (B ^ j),show j+(i+1)=j+i+1 from by omega,Nat.pow_succ];have r:B ^ j*(g*(B ^ i*b))=B ^ (j+i)*(g*b):=by
  rw[Nat.pow_add,Nat.mul_left_comm g,Nat.mul_assoc]
 have s:B ^ (j+i)*(f+(c+g*b) % B+d)=B ^ (j+i)*(a+B*k):=by rw[o]
 have t:B ^ (j+i)*((c+g*b) % B+B*((c+g*b) / B))=B ^ (j+i)*(c+g*b):=by rw[e]
 rw[r,Nat.mul_add (B ^ (j+i)*B),Nat.mul_assoc,Nat.mul_assoc];simp only[Nat.mul_add] at s t h ⊢;omega
theorem Qrz(B j n a c d g L m V U:Nat)(w:L<B ^ (j+n))(x:U=m+B ^ (j+n)*a)(o:0<V)(f:V≤B ^ n)
 (h:L+B ^ j*(g*V)=m+B ^ (j+n)*(c+d)) (p:U / (B ^ j*V)≤g) (s:g≤U / (B ^ j*V)+1) (hB:0<B):
 (g=U / (B ^ j*V)∧a=c+d∧L=U % (B ^ j*V))∨(g=U / (B ^ j*V)+1∧a+1=c+d∧L+B ^ j*V=U % (B ^ j*V)+B ^ (j+n)):=by
 have t:0<B ^ j*V:=Nat.mul_pos (Nat.pow_pos hB) o;have y:=Nat.div_add_mod U (B ^ j*V);have z:=Nat.mod_lt U t;have u:B ^ j*V≤B ^ (j+n):=by rw[Nat.pow_add];exact Nat.mul_le_mul_left _ f
 have v:B ^ j*(g*V)=B ^ j*V*g:=by rw[Nat.mul_comm g V,Nat.mul_assoc]
 rw[v] at h;generalize U / (B ^ j*V)=q at*;generalize U % (B ^ j*V)=r at*;generalize B ^ j*V=D at*;generalize B ^ (j+n)=T at*;have A:0<T:=by omega
 rcases(show g=q∨g=q+1 by omega) with rfl|rfl
 ·
  left;have i:L+T*a=r+T*(c+d):=by omega
  have e:a=c+d:=by
   rcases Nat.lt_trichotomy a (c+d) with k|b|l
   ·
    have:=Nat.mul_le_mul_left T (show a+1≤c+d by omega);rw[Nat.mul_add] at this;omega
   · exact b
   ·
    have:=Nat.mul_le_mul_left T (show c+d+1≤a by omega);rw[Nat.mul_add] at this;omega
  refine⟨rfl,e,?_⟩;rw[e] at i;omega
 ·
  right;rw[Nat.mul_add,Nat.mul_one] at h;have i:L+D+T*a=r+T*(c+d):=by omega
  have e:a+1=c+d:=by
   rcases Nat.lt_trichotomy (a+1) (c+d) with k|b|l
   ·
    have:=Nat.mul_le_mul_left T (show a+2≤c+d by omega);rw[Nat.mul_add] at this;omega
   · exact b
   · have:=Nat.mul_le_mul_left T (show c+d≤a by omega)
     omega
  refine⟨rfl,e,?_⟩;rw[←e,Nat.mul_add] at i;omega
theorem Qr0(a lo d:Nat)(f:a<4294967296)(e:lo<4294967296)(g:d≤1):∃b c:Nat,b<4294967296∧c≤1∧b+lo+d=a+4294967296*c∧
 ((((a:Int) - lo) % 18446744073709551616 - d) % 18446744073709551616) % 4294967296=(b:Int)∧((((a:Int) - lo) % 18446744073709551616 - d) % 18446744073709551616) / 9223372036854775808=(c:Int):=by
 by_cases h:a<lo+d
 · exact⟨a+4294967296 - lo - d,1,by omega,by omega,by omega,by omega,by omega⟩
 · exact⟨a - lo - d,0,by omega,by omega,by omega,by omega,by omega⟩
theorem Qj3(B:Nat)(us:List Nat)(p a:Nat)(b:p<us.length)(c:us.getD p 0=a)(d:val B (us.drop (p+1))=0):val B us=val B (us.take p)+B ^ p*a:=by
 rw[Qak B us p (by omega),Qao B us p b,d,c];simp
theorem Qr1{B:Nat}(hB:0<B){us:List Nat}(c:Small B us)(j:Nat)(a:j≤us.length):val B us / B ^ j=val B (us.drop j):=by
 have b:=Qab hB (c.take j);rw[List.length_take,Nat.min_eq_left a] at b;rw[Qak B us j a,Nat.add_mul_div_left _ _ (Nat.pow_pos hB),Nat.div_eq_of_lt b,Nat.zero_add]
structure DivInv (X V n M k:Nat) (us qs:List Nat):Prop where
 ulen:us.length=M+n+3
 qlen:qs.length=M+1
 usmall:Small 4294967296 us
 qsmall:Small 4294967296 qs
 eq:val 4294967296 us+4294967296 ^ k*V*val 4294967296 (qs.drop k)=X
 lt:val 4294967296 us<4294967296 ^ k*V
theorem DivInv.zero{X V n M j:Nat}{us a:List Nat}(h:DivInv X V n M (j+1) us a)(c:j≤M)(d:V<4294967296 ^ (n+2)):val 4294967296 (us.drop (j+n+3))=0:=by
 apply Qga _ (by omega)
 ·
  have e:=h.lt;have b:4294967296 ^ (j+1)*V≤4294967296 ^ (j+1)*4294967296 ^ (n+2):=Nat.mul_le_mul_left _ (by omega);rw[←Nat.pow_add,show j+1+(n+2)=j+n+3 from by omega] at b;omega
 · rw[h.ulen];omega
theorem DivInv.q_lt{X V n M j:Nat}{us b:List Nat}(h:DivInv X V n M (j+1) us b)(c:0<V):val 4294967296 us / (4294967296 ^ j*V)<4294967296:=by
 rw[Nat.div_lt_iff_lt_mul (Nat.mul_pos (Nat.pow_pos (by omega)) c)];have a:=h.lt;rw[Nat.pow_succ,Nat.mul_comm (4294967296 ^ j) 4294967296,Nat.mul_assoc] at a;exact a
theorem DivInv.guess{X V n M j:Nat}{us H v:List Nat}(h:DivInv X V n M (j+1) us H)(I:j≤M)(f:Num 4294967296 v V)(i:v.length=n+2)
 {m s k b c e Q:Nat} (J:us.getD (j+(n+2)) 0=m) (E:us.getD (j+(n+1)) 0=s) (F:us.getD (j+n) 0=k) (f1:v.getD (n+1) 0=b) (f0:v.getD n 0=c) (K:1≤b)
 (l:m*4294967296+s=e) (L:val 4294967296 us / (4294967296 ^ j*V)=Q):
 Q≤e / b∧(∀g r,g*b+r=e→r*4294967296+k<g*c→Q<g)∧(∀g r,g*b+r=e→g<4294967296→g*c≤r*4294967296+k→g≤Q+1)∧(∀g r,g*b+r=e→4294967296≤r→g<4294967296):=by
 have o:=Qab (B:=4294967296) (by omega) f.small;rw[f.eq,i] at o;have N:=h.zero I o;have u:0<V:=by
  have:=f.trim.pow_le (B:=4294967296) (by omega);rw[f.eq] at this;have O:0<4294967296 ^ (v.length - 1):=Nat.pow_pos (by omega);omega
 have hW:=Qj1 4294967296 us j n (by rw[h.ulen];omega) N;have d:=Qj2 4294967296 v n i;rw[show j+n+2=j+(n+2) from by omega,show j+n+1=j+(n+1) from by omega,J,E,F,l] at hW;rw[f1,f0,f.eq] at d;have w:0<4294967296 ^ n:=Nat.pow_pos (by omega);have p:val 4294967296 ((us.drop j).take n)<4294967296 ^ n:=by
  have:=Qab (B:=4294967296) (by omega) ((h.usmall.drop j).take n);rw[List.length_take,List.length_drop,h.ulen,Nat.min_eq_left (by omega)] at this;exact this
 have x:val 4294967296 (v.take n)<4294967296 ^ n:=by
  have:=Qab (B:=4294967296) (by omega) (f.small.take n);rw[List.length_take,i,Nat.min_eq_left (by omega)] at this;exact this
 have y:k<4294967296:=by rw[←F];exact h.usmall.getD (by omega) _
 have z:s<4294967296:=by rw[←E];exact h.usmall.getD (by omega) _
 have G:c<4294967296:=by rw[←f0];exact f.small.getD (by omega) _
 have A:Q=val 4294967296 (us.drop j) / V:=by
  rw[←L,←Nat.div_div_eq_div_mul,Qr1 (by omega) h.usmall j (by rw[h.ulen];omega)]
 have P:val 4294967296 (us.drop j)<4294967296*V:=by
  have R:=h.lt;have O:=Qak 4294967296 us j (by rw[h.ulen];omega);rw[Nat.pow_succ,Nat.mul_assoc] at R;apply Nat.lt_of_mul_lt_mul_left (a:=4294967296 ^ j);omega
 have C:m≤b:=by
  apply Classical.byContradiction;intro t;have S:(b+1)*(4294967296*(4294967296*4294967296 ^ n))≤m*(4294967296*(4294967296*4294967296 ^ n)):=Nat.mul_le_mul_right _ (by omega);have U:m*(4294967296*(4294967296*4294967296 ^ n))≤val 4294967296 (us.drop j):=by
   rw[hW,←l,Nat.add_mul,Nat.mul_assoc];omega
  have W:c*4294967296 ^ n+4294967296 ^ n≤4294967296*4294967296 ^ n:=by
   have:=Nat.mul_le_mul_right (4294967296 ^ n) (show c+1≤4294967296 by omega);rw[Nat.add_mul,Nat.one_mul] at this;exact this
  have Y:4294967296*V<4294967296*((b+1)*(4294967296*4294967296 ^ n)):=by
   apply Nat.mul_lt_mul_of_pos_left _ (by omega);rw[Nat.add_mul,Nat.one_mul];omega
  rw[Nat.mul_left_comm] at S;omega
 refine⟨?_,?_,?_,?_⟩
 · rw[A];exact Qjz _ _ e k _ b c _ _ V w (by omega) hW d p y (by omega)
 · intro g r q t;rw[A];exact Qf9 _ _ e k _ b c _ _ V g r w hW d p u q t
 · intro g r q D t;rw[A];exact Qrw _ _ e k _ b c _ _ V g r w hW d x (by omega) q D t
 · intro g r q T;exact Qrx _ m s b g r C z (by rw[l];exact q) T
theorem DivInv.next{X V n M j Q:Nat}{us b a:List Nat}(h:DivInv X V n M (j+1) us b)(m:j≤M)(c:0<V)(d:val 4294967296 us / (4294967296 ^ j*V)=Q)
 (hl:a.length=M+n+3) (g:Small 4294967296 a) (e:val 4294967296 a=val 4294967296 us % (4294967296 ^ j*V)):DivInv X V n M j a (b.set j Q):=by
 have i:0<4294967296 ^ j*V:=Nat.mul_pos (Nat.pow_pos (by omega)) c;have f:=h.q_lt c;rw[d] at f;refine⟨hl,by rw[List.length_set];exact h.qlen,g,h.qsmall.set j f,?_,by rw[e];exact Nat.mod_lt _ i⟩;have k:=h.eq;have l:=Nat.div_add_mod (val 4294967296 us) (4294967296 ^ j*V);rw[d] at l;rw[Qcz _ j (by rw[List.length_set,h.qlen];omega),Qbh,Qbj _ _ _ (by rw[h.qlen];omega),List.drop_set_of_lt (by omega),e,Nat.mul_add];rw[Nat.pow_succ,Nat.mul_assoc (4294967296 ^ j) 4294967296 V,Nat.mul_left_comm,Nat.mul_assoc 4294967296 _ _,Nat.mul_left_comm 4294967296] at k;omega
theorem Qgb{X V x y p Q R:Nat}(c:0<p)(d:x*p=X)(a:y*p=V)(h:R+V*Q=X)(e:R<V):Q=x / y∧R / p=x % y:=by
 have i:0<y:=by
  rcases Nat.eq_zero_or_pos y with b|b
  · rw[b,Nat.zero_mul] at a;omega
  · exact b
 have f:Q=x / y:=by
  rw[←Nat.mul_div_mul_right x y c,d,a,←h,Nat.add_mul_div_left _ _ (by omega),Nat.div_eq_of_lt e,Nat.zero_add]
 refine⟨f,?_⟩;have g:R=X % V:=by rw[←h,Nat.add_mul_mod_self_left,Nat.mod_eq_of_lt e]
 rw[g,←d,←a,Nat.mul_mod_mul_right,Nat.mul_div_cancel _ c]
theorem Qgc(B:Nat):∀(l:List Nat),(∀i,l.getD i 0=0)→val B l=0
 | [],_=>rfl
 |d :: l,h=>by
  have a:d=0:=h 0;have b:=Qgc B l (fun i=>h (i+1));rw[Qbh,a,b];simp
theorem Qgd(B:Nat)(hB:0<B):∀(l:List Nat),val B l=0→∀i,l.getD i 0=0
 | [],_,i=>by simp
 |d :: l,h,i=>by
  rw[Qbh] at h;have b:val B l=0:=by
   rcases Nat.eq_zero_or_pos (val B l) with a|a
   · exact a
   · have:=Nat.mul_pos hB a;omega
  match i with
  |0=>show d=0;omega
  |i+1=>exact Qgd B hB l b i
theorem Qec(l:List Nat)(k i:Nat):(l.drop k).getD i 0=l.getD (k+i) 0:=by
 rw[List.getD_eq_getElem?_getD,List.getD_eq_getElem?_getD,List.getElem?_drop]
theorem Qr2(B:Nat)(hB:0<B)(us:List Nat)(q:Nat)(h:val B (us.drop (q+1))=0)(p:Nat)(a:q<p):us.getD p 0=0:=by
 have:=Qgd B hB _ h (p - (q+1));rw[Qec,show q+1+(p - (q+1))=p from by omega] at this;exact this
theorem Qr3(B:Nat)(us:List Nat)(q:Nat)(h:∀p,q<p→us.getD p 0=0):val B (us.drop (q+1))=0:=
 Qgc B _ (fun i=>by rw[Qec];exact h _ (by omega))
theorem Qj4(B:Nat)(us:List Nat)(q:Nat)(a:q<us.length)(b:∀p,q<p→us.getD p 0=0):val B (us.set q 0)=val B (us.take q):=by
 rw[Qj3 B (us.set q 0) q 0 (by rw[List.length_set];exact a) (Qbj _ _ _ a) (Qr3 _ _ _ (fun p c=>by rw[getD_set_ne _ _ _ _ (by omega)];exact b p c)),List.take_set_of_le (Nat.le_refl _)];simp
theorem Qr4(L T c r D:Nat)(a:L<T)(b:r<D)(d:D≤T)(e:c≤1)(h:L+T*c=r+T):c=1∧L=r:=by
 have:c=0∨c=1:=by omega
 rcases this with rfl|rfl
 · omega
 · exact⟨rfl,by omega⟩
def DivOk(w:Vz)(x y:Nat)(e:Ending)(w':Vz):Prop:=
 (∃a cap r a' cap' r',e=.returned (.tuple #[.slice a r.length cap,.slice a' r'.length cap'])/\U32 w' a cap r (x / y)/\U32 w' a' cap' r' (x % y))/\Below w.heap.size w w'
theorem Qnn(c d:Vx)(c1 c2:Nat)(l m:Vy)(x y:Nat)(w:Vz)(j:U32 w c c1 l x)(f:U32 w d c2 m y)(b:x<y):
 Calls prog 203 #[.slice c l.length c1,.slice d m.length c2] w (DivOk w x y):=by
 have o:=f.short;have p:((m.length:Int) == 0)=false:=by
  rw[beq_eq_false_iff_ne];have:=(f.num.len_zero (by omega)).2;omega
 have q:=(Qau x y).2 b;go_enter func203,ntmps203;go_wp2_with fail;refine(Qbf c d c1 c2 l m x y w j f).mono ?_;rintro e k ⟨rfl,g⟩;go_wp2_with fail;refine(Qdt c c1 l x k (j.below g)).mono ?_;rintro e r ⟨⟨a,h,rfl,n⟩,i⟩;go_wp2;go_ret2;refine⟨⟨none,0,[],a,h,l,rfl,?_,?_⟩,g.trans (i.mono g.size)⟩
 . rw[Nat.div_eq_of_lt b];exact⟨Row.nil _ _,Num.zero _,by simp⟩
 . rw[Nat.mod_eq_of_lt b];exact n
theorem Qno(n p:Vx)(c1 c2:Nat)(l m:Vy)(x y:Nat)(w:Vz)(c:U32 w n c1 l x)(d:U32 w p c2 m y)(N:0<y)(G:y<=x)(hl:l.length<=2):
 Calls prog 203 #[.slice n l.length c1,.slice p m.length c2] w (DivOk w x y):=by
 have P:=d.short;have Q:((m.length:Int) == 0)=false:=by
  rw[beq_eq_false_iff_ne];have:=(d.num.len_zero (by omega)).2;omega
 have H:m.length<=l.length:=by
  apply bC;intro D;have:=Qat (B:=4294967296) (by omega) c.num.small d.num.trim (by omega);rw[c.num.eq,d.num.eq] at this;omega
 have D:¬cmp3 x y<0:=by rw[Qau];omega
 have f:x<18446744073709551616:=by
  have I:=Qab (B:=4294967296) (by omega) c.num.small;have R:=Qcf (B:=4294967296) (by omega) hl;rw[c.num.eq] at I;omega
 go_enter func203,ntmps203;go_wp2_with fail;refine(Qbf n p c1 c2 l m x y w c d).mono ?_;rintro e J ⟨rfl,g⟩;go_wp2_with fail;refine(Qcb n c1 l x J (c.below g) hl).mono ?_;rintro e S ⟨rfl,rfl⟩;go_wp2_with fail;refine(Qcb p c2 m y _ (d.below g) (by omega)).mono ?_;rintro e T ⟨rfl,rfl⟩;have U:((y:Int) == 0)=false:=by rw[beq_eq_false_iff_ne];omega
 obtain⟨q,s⟩:=nm (x / y);obtain⟨r,t⟩:=nm (x % y);have t1:(x:Int) / (y:Int)=(q:Int):=by rw[<-s];simp
 have t2:(x:Int) % (y:Int)=(r:Int):=by rw[<-t];simp
 have t3:(x:Int).tmod (y:Int)=(r:Int):=by rw[Int.tmod_eq_emod_of_nonneg (by omega)];exact t2
 have t4:(x:Int).tdiv (y:Int)=(q:Int):=by rw[Int.tdiv_eq_ediv_of_nonneg (by omega)];exact t1
 have u:q<18446744073709551616:=by rw[<-s];exact Nat.lt_of_le_of_lt (Nat.div_le_self _ _) f
 have K:r<18446744073709551616:=by rw[<-t];exact Nat.lt_of_le_of_lt (Nat.mod_le _ _) f
 have t5:=Qcc q u;have L:O (x / y=q):=s;have M:O (x % y=r):=t;clear s t D;go_wp2;go_region_with (first|(go_at_call_of 149 (Value.int IntKind.u64 (q:Int));refine(Qbt _ _ ?_ ?_).mono ?_;omega;omega;rintro e V ⟨⟨v,h,z,rfl,i,E⟩,a⟩)|(go_at_call_of 149 (Value.int IntKind.u64 (r:Int));refine(Qbt _ _ ?_ ?_).mono ?_;omega;omega;rintro e W ⟨⟨A,j,C,rfl,k,F⟩,b⟩))
 all_goals
  go_wp2;go_ret2;rw[Int.toNat_natCast] at i k;refine⟨⟨v,h,z,A,j,C,rfl,?_,?_⟩,g.drew.trans ((a.mono g.size).trans (b.mono (Nat.le_trans g.size a.size)))⟩
  . rw[L.o];exact i.below b
  . rw[M.o];exact k
theorem Qnp(g C:Vx)(c1 c2:Nat)(l m:Vy)(x y:Nat)(w:Vz)(s:U32 w g c1 l x)(p:U32 w C c2 m y)(D:0<y)(F:y<=x)(hl:2<l.length)(G:m.length=1):
 Calls prog 203 #[.slice g l.length c1,.slice C m.length c2] w (DivOk w x y):=by
 have P:=s.short;have H:¬cmp3 x y<0:=by rw[Qau];omega
 obtain⟨d,rfl⟩:∃d,m= [d]:=by
  match m,G with
  | [d],_=>exact⟨d,rfl⟩
 have t:d=y:=by have:=p.num.eq;simp[val] at this;exact this
 subst t;have h:=p.num.small d (by simp);obtain⟨b,c,rfl,u,f⟩:=p.row.cell 0 (by simp);have f:w.cell? ⟨b,c,none⟩=some (.int .u32 (d:Int)):=by simpa using f
 show Calls prog 203 #[.slice g l.length c1,.slice (some ⟨b,c,none⟩) 1 c2] w (DivOk w x d)
 go_enter func203,ntmps203;go_wp2_with fail;refine(Qbf g (some ⟨b,c,none⟩) c1 c2 l [d] x d w s p).mono ?_;rintro e I ⟨rfl,i⟩;have E:=ce i u f;go_wp2_with fail;refine(Qn7 g c1 d l x I (s.below i) D h).mono ?_;rintro e j ⟨⟨a,v,r,rfl,J⟩,k⟩;have A:x % d<4294967296:=Nat.lt_trans (Nat.mod_lt _ D) h;obtain⟨z,q⟩:=nm (x % d);have K:O (x % d=z):=q;rw[q] at A;rw[q];clear q H;go_wp2_with fail;refine(Qa0 j.heap.size 1 1 z [z] _ (Blk.new .u32 233 j [z]) rfl ?_ lZ (by omega) (by simp[val])).mono ?_
 . intro e L;simp at L;omega
 rintro e Q ⟨⟨M,cap',N,rfl,B⟩,rfl⟩;go_wp2;go_ret2;have n:Bl j (j.alloc (.cells (wordCells .u32 [z]) 233)):=bR.alloc lZ _;refine⟨⟨a,v,r,M,cap',N,rfl,J.below n,?_⟩,i.trans ((k.mono i.size).trans (n.mono (Nat.le_trans i.size k.size)))⟩;rw[K.o];exact B
def loopsIn:Code->List Code
 | .loop c=>c :: loopsIn c
 | .seq a b=>loopsIn a++loopsIn b
 | .block _ c=>loopsIn c
 | .scope c=>loopsIn c
 | .cond _ a b=>loopsIn a++loopsIn b
 |_=>[]
structure DivMem (w3 wr:Vz) (bv ov gu gq n L:Nat) (v us qs:Vy):Prop where
 below:Below gu w3 wr
 bvlt:bv<gu
 cell:∀i,i<n+2->w3.cell? ⟨bv,ov+i,none⟩=some (.int .u32 ((v.getD i 0:Nat):Int))
 vsmall:Small 4294967296 v
 ub:Blk .u32 233 wr gu us
 qb:Blk .u32 233 wr gq qs
 ne:gu<gq
 ul:us.length=L
 usmall:Small 4294967296 us
theorem DivMem.vcell{c wr:Vz}{a b d e n L:Nat}{v us f:Vy}(h:DivMem c wr a b d e n L v us f)(i:Nat)(g:i<n+2):wr.cell? ⟨a,b+i,none⟩=some (.int .u32 ((v.getD i 0:Nat):Int)):=
 (h.below.cell (p:=⟨a,b+i,none⟩) h.bvlt).trans (h.cell i g)
theorem DivMem.drew{a wr:Vz}{b c d e n L:Nat}{v us f:Vy}(h:DivMem a wr b c d e n L v us f):DivMem a wr.drew b c d e n L v us f:=
 ⟨h.below.drew,h.bvlt,h.cell,h.vsmall,h.ub.drew,h.qb.drew,h.ne,h.ul,h.usmall⟩
theorem DivMem.drewN{a wr:Vz}{b c d e n L:Nat}{v us f:Vy}(h:DivMem a wr b c d e n L v us f)(k:Nat):DivMem a (wr.drewN k) b c d e n L v us f:=
 ⟨⟨h.below.os,h.below.tape,h.below.output,h.below.size,h.below.block⟩,h.bvlt,h.cell,h.vsmall,h.ub,h.qb,h.ne,h.ul,h.usmall⟩
theorem DivMem.setU{b wr:Vz}{c d a e n L:Nat}{v us f:Vy}(h:DivMem b wr c d a e n L v us f)(i x:Nat)(g:x<4294967296):DivMem b (wr.setCell ⟨a,i,none⟩ (.int .u32 (x:Int))) c d a e n L v (us.set i x) f:=
 ⟨h.below.setCell lZ _,h.bvlt,h.cell,h.vsmall,h.ub.set i x,h.qb.other (by have:=h.ne;omega) i _,h.ne,by rw[List.length_set];exact h.ul,h.usmall.set i g⟩
theorem DivMem.setQ{c wr:Vz}{d e b a n L:Nat}{v us f:Vy}(h:DivMem c wr d e b a n L v us f)(i x:Nat):DivMem c (wr.setCell ⟨a,i,none⟩ (.int .u32 (x:Int))) d e b a n L v us (f.set i x):=
 ⟨h.below.setCell (by have:=h.ne;show b<=a;omega) _,h.bvlt,h.cell,h.vsmall,h.ub.other (by have:=h.ne;omega) i _,h.qb.set i x,h.ne,h.ul,h.usmall⟩
theorem Qny(B j i q c b a R:Nat)(us v:Vy)(g:q<=us.length)(d:i+j<q)(f:us.getD (i+j) 0=a)(k:v.getD i 0=b)
 (h:val B (us.take q)+B ^ (j+i)*c=R+B ^ j*val B (v.take i)):
 val B ((us.set (i+j) ((c+(a+b)) % B)).take q)+B ^ (j+(i+1))*((c+(a+b)) / B)=R+B ^ j*val B (v.take (i+1)):=by
 rw[Nat.add_comm i j] at d f ⊢;have e:=Qia B (j+i) q c b a _ us g d f h;rw[show c+(a+b)=c+(b+a) from by omega,show j+(i+1)=j+i+1 from by omega,e,Qae,k,Nat.mul_add,<-Nat.mul_assoc (B ^ j),<-Nat.pow_add];omega
def BackExit(Q:Exit->Act->World->Prop)(w3:Vz)(bv ov cv gu gq n j L R a2:Nat)(v qs:Vy)(x10 x15 x16 x17 x20:Value):Prop:=
 ∀(c:Nat) (us:Vy) {s0 s1 s2 s3 s4 s5 s6 s7 s8 s9 s14 s19 s21 s23 s24 s25 s26 s27 s28 s29 s30 s31 s32 s33 s34 s35 s36 s37 s38 s39 s40 s41 s42 s43 s44 s45 s46 s47 s48 s49 s50 s51 s52 s53 s54 s55 s56 s57 s58 s59 s60 s61 s62 s63 s64 s65 s66 s67 s68 s69 s70 s71 s72 s73 s74 s75 s76 s77 s78 s79 s80 s81 s82 s83 s84 s85 s86 s87 s88 s89 s90 s91 s92 s93 s94 s95 s96 s97 s98 s99 s100 s101 s102 s103 s104 s105 s106 s107 s108 s109 s110 s111 s112 s113 s114 s115 s116 s117 s118 s119 s120 s121 s122 s123 s124 s125 s126 s127 s128 s129 s130 s131 s132 s133 s134 s135 s136 s137 s138 s139 s140 s141 s142 s143 s144 s145 s146 s147 s148 s149 s150 s151 s152 s153 s154 s155 s156 s157 s158 s159 s160 s161 s162 s163 s164 s165 s166 s167 s168 s169 s170 s171 s172 s173 s174 s175 s176 s177 s178 s179 s180 s181 s182 s183 s184 s185 s186 s187 s188 s189 s190 s191 s192 s193 s194 s195 s196 s197 s198 s199 s200 s201 s202 s203 s204 s205 s206 s207 s208 s209 s210 s211 s212 s213 s214 s215 s216 s217 s218 s219 s220 s221 s222 s223 s224 s225 s226 s227 s228 s229 s230 s231 s232 s233 s234 s235 s236 s237 s238 s239 s240 s241 s242 s243 s244 s245 s246 s247 s248 s249 s250 s251 s252 s253 s254 s255 s256 s257 s258 s259 s260 s261 s262 s263 s264 s265 s266 s267 s268 s269 s270 s271 s272:Value} (wr:Vz),DivMem w3 wr bv ov gu gq n L v us qs->c<=1->us.getD (j+(n+2)) 0=a2->(∀p,j+(n+2)<p->us.getD p 0=0)->
    val 4294967296 (us.take (j+(n+2)))+4294967296 ^ (j+(n+2))*c=R+4294967296 ^ j*val 4294967296 (v.take (n+2))->
    Q (.exit 6) ⟨#[s0,s1,s2,s3,s4,s5,s6,s7,s8,s9,x10,.slice (some ⟨bv,ov,none⟩) (n+2) cv,.slice (some ⟨gu,0,none⟩) L L,.int .i64 ((n:Int)+2),s14,x15,x16,x17,.int .i64 (j:Int),s19,x20,s21,.int .u64 (c:Int),s23,s24,s25,s26,s27,s28,s29,s30,s31,s32,s33,s34,s35,s36,s37,s38,s39,s40,s41,s42,s43,s44,s45,s46,s47,s48,s49,s50,s51,s52,s53,s54,s55,s56,s57,s58,s59,s60,s61,s62,s63,s64,s65,s66,s67,s68,s69,s70,s71,s72,s73,s74,s75,s76,s77,s78,s79,s80,s81,s82,s83,s84,s85,s86,s87,s88,s89,s90,s91,s92,s93,s94,s95,s96,s97,s98,s99,s100,s101,s102,s103,s104,s105,s106,s107,s108,s109,s110,s111,s112,s113,s114,s115,s116,s117,s118,s119,s120,s121,s122,s123,s124,s125,s126,s127,s128,s129,s130,s131,s132,s133,s134,s135,s136,s137,s138,s139,s140,s141,s142,s143,s144,s145,s146,s147,s148,s149,s150,s151,s152,s153,s154,s155,s156,s157,s158,s159,s160,s161,s162,s163,s164,s165,s166,s167,s168,s169,s170,s171,s172,s173,s174,s175,s176,s177,s178,s179,s180,s181,s182,s183,s184,s185,s186,s187,s188,s189,s190,s191,s192,s193,s194,s195,s196,s197,s198,s199,s200,s201,s202,s203,s204,s205,s206,s207,s208,s209,s210,s211,s212,s213,s214,s215,s216,s217,s218,s219,s220,s221,s222,s223,s224,s225,s226,s227,s228,s229,s230,s231,s232,s233,s234,s235,s236,s237,s238,s239,s240,s241,s242,s243,s244,s245,s246,s247,s248,s249,s250,s251,s252,s253,s254,s255,s256,s257,s258,s259,s260,s261,s262,s263,s264,s265,s266,s267,s268,s269,s270,s271,s272],[]⟩ wr
def BackAt(Q:Exit->Act->World->Prop)(w3:Vz)(bv ov cv gu gq n j L R a2:Nat)(v qs:Vy)(x10 x15 x16 x17 x20:Value)(t:Nat):Prop:=
 ∀(i c:Nat) (us:Vy) {s0 s1 s2 s3 s4 s5 s6 s7 s8 s9 s14 s19 s21 s23 s24 s25 s26 s28 s29 s30 s31 s32 s33 s34 s35 s36 s37 s38 s39 s40 s41 s42 s43 s44 s45 s46 s47 s48 s49 s50 s51 s52 s53 s54 s55 s56 s57 s58 s59 s60 s61 s62 s63 s64 s65 s66 s67 s68 s69 s70 s71 s72 s73 s74 s75 s76 s77 s78 s79 s80 s81 s82 s83 s84 s85 s86 s87 s88 s89 s90 s91 s92 s93 s94 s95 s96 s97 s98 s99 s100 s101 s102 s103 s104 s105 s106 s107 s108 s109 s110 s111 s112 s113 s114 s115 s116 s117 s118 s119 s120 s121 s122 s123 s124 s125 s126 s127 s128 s129 s130 s131 s132 s133 s134 s135 s136 s137 s138 s139 s140 s141 s142 s143 s144 s145 s146 s147 s148 s149 s150 s151 s152 s153 s154 s155 s156 s157 s158 s159 s160 s161 s162 s163 s164 s165 s166 s167 s168 s169 s170 s171 s172 s173 s174 s175 s176 s177 s178 s179 s180 s181 s182 s183 s184 s185 s186 s187 s188 s189 s190 s191 s192 s193 s194 s195 s196 s197 s198 s199 s200 s201 s202 s203 s204 s205 s206 s207 s208 s209 s210 s211 s212 s213 s214 s215 s216 s217 s218 s219 s220 s221 s222 s223 s224 s225 s226 s227 s228 s229 s230 s231 s232 s233 s234 s235 s236 s237 s238 s239 s240 s241 s242 s243 s244 s245 s246 s247 s248 s249 s250 s251 s252 s253 s254 s255 s256 s257 s258 s259 s260 s261 s262 s263 s264 s265 s266 s267 s268 s269 s270 s271 s272:Value} (wr:Vz),i+t=n+2->DivMem w3 wr bv ov gu gq n L v us qs->c<=1->us.getD (j+(n+2)) 0=a2->(∀p,j+(n+2)<p->us.getD p 0=0)->
    val 4294967296 (us.take (j+(n+2)))+4294967296 ^ (j+i)*c=R+4294967296 ^ j*val 4294967296 (v.take i)->
    Code.rounds prog (((Tryz.f203.body.map loopsIn).getD []).getD 3 .skip) Q (t+1) ⟨#[s0,s1,s2,s3,s4,s5,s6,s7,s8,s9,x10,.slice (some ⟨bv,ov,none⟩) (n+2) cv,.slice (some ⟨gu,0,none⟩) L L,.int .i64 ((n:Int)+2),s14,x15,x16,x17,.int .i64 (j:Int),s19,x20,s21,.int .u64 (c:Int),s23,s24,s25,s26,.int .i64 (i:Int),s28,s29,s30,s31,s32,s33,s34,s35,s36,s37,s38,s39,s40,s41,s42,s43,s44,s45,s46,s47,s48,s49,s50,s51,s52,s53,s54,s55,s56,s57,s58,s59,s60,s61,s62,s63,s64,s65,s66,s67,s68,s69,s70,s71,s72,s73,s74,s75,s76,s77,s78,s79,s80,s81,s82,s83,s84,s85,s86,s87,s88,s89,s90,s91,s92,s93,s94,s95,s96,s97,s98,s99,s100,s101,s102,s103,s104,s105,s106,s107,s108,s109,s110,s111,s112,s113,s114,s115,s116,s117,s118,s119,s120,s121,s122,s123,s124,s125,s126,s127,s128,s129,s130,s131,s132,s133,s134,s135,s136,s137,s138,s139,s140,s141,s142,s143,s144,s145,s146,s147,s148,s149,s150,s151,s152,s153,s154,s155,s156,s157,s158,s159,s160,s161,s162,s163,s164,s165,s166,s167,s168,s169,s170,s171,s172,s173,s174,s175,s176,s177,s178,s179,s180,s181,s182,s183,s184,s185,s186,s187,s188,s189,s190,s191,s192,s193,s194,s195,s196,s197,s198,s199,s200,s201,s202,s203,s204,s205,s206,s207,s208,s209,s210,s211,s212,s213,s214,s215,s216,s217,s218,s219,s220,s221,s222,s223,s224,s225,s226,s227,s228,s229,s230,s231,s232,s233,s234,s235,s236,s237,s238,s239,s240,s241,s242,s243,s244,s245,s246,s247,s248,s249,s250,s251,s252,s253,s254,s255,s256,s257,s258,s259,s260,s261,s262,s263,s264,s265,s266,s267,s268,s269,s270,s271,s272],[]⟩ wr
theorem Qnz(Q:Exit->Act->World->Prop)(h:Vz)(k l cv m q n j L R r:Nat)(v s:Vy)(b d e f g:Value)(D:L<=1099511627776)(E:j+(n+2)<L)
 (a:BackExit Q h k l cv m q n j L R r v s b d e f g):BackAt Q h k l cv m q n j L R r v s b d e f g 0:=by
 intro i c us
 iterate 262 intro
 intro wr F t y u w x;obtain rfl:i=n+2:=by omega
 have z:O (val 4294967296 (us.take (j+(n+2)))+4294967296 ^ (j+(n+2))*c=R+4294967296 ^ j*val 4294967296 (v.take (n+2))):=x;have A:O (DivMem h wr k l m q n L v us s):=t;have B:O (∀p,j+(n+2)<p->us.getD p 0=0):=w;have C:O (us.getD (j+(n+2)) 0=r):=u;clear x t w u;rw[rounds_succ]
 conv=>arg 2;whnf
 go_wp2;exact a _ _ _ A.o y C.o B.o z.o
theorem Qn0(Q:Exit->Act->World->Prop)(r:Vz)(s u cv w x n j L R y:Nat)(v z:Vy)(f g h k l:Value)(Y:L<=1099511627776)(Z:j+(n+2)<L)(t:Nat)
 (I:BackAt Q r s u cv w x n j L R y v z f g h k l t):BackAt Q r s u cv w x n j L R y v z f g h k l (t+1):=by
 intro i c us
 iterate 262 intro
 intro wr D d hc E F A;have HV:O (val 4294967296 (us.take (j+(n+2)))+4294967296 ^ (j+i)*c=R+4294967296 ^ j*val 4294967296 (v.take i)):=A;have J:O (DivMem r wr s u w x n L v us z):=d;have K:O (∀p,j+(n+2)<p->us.getD p 0=0):=F;have M:O (us.getD (j+(n+2)) 0=y):=E;have B:=d.ul;obtain⟨e,q⟩:=nm (v.getD i 0);obtain⟨a,b⟩:∃a,us.getD (i+j) 0=a:=⟨_,rfl⟩;have N:e<4294967296:=by rw[<-q];exact d.vsmall.getD (by omega) _
 have P:a<4294967296:=by rw[<-b];exact d.usmall.getD (by omega) _
 have k1:=d.vcell i (by omega);have k2:=d.ub.cell (i+j) (by omega);have k3:=d.ub.free (i+j);rw[q] at k1;rw[b] at k2;have m:=Qny 4294967296 j i (j+(n+2)) c e a R us v (by omega) (by omega) b q A;have S:O (val 4294967296 ((us.set (i+j) ((c+(a+e)) % 4294967296)).take (j+(n+2)))+4294967296 ^ (j+(i+1))*((c+(a+e)) / 4294967296)=R+4294967296 ^ j*val 4294967296 (v.take (i+1))):=m;have T:O (((c:Int)+(a+e)) % 4294967296=(((c+(a+e)) % 4294967296:Nat):Int)):=by unfold O;omega
 have U:O (((c:Int)+(a+e)) / 4294967296=(((c+(a+e)) / 4294967296:Nat):Int)):=by unfold O;omega
 have V:i<n+2:=by omega
 have G:i+j<L:=by omega
 have H:(i:Int)<(n:Int)+2:=by omega
 have C:(i:Int)+(j:Int)<(L:Int):=by omega
 have W:O (i+(t+1)=n+2):=D;clear A d F E q b m B D;rw[rounds_succ]
 conv=>arg 2;whnf
 go_wp2;go_quiet (fail);go_wp2;rw[T.o,U.o];rw[show (i:Int)+1=((i+1:Nat):Int) from by omega]
 .
  refine I (i+1) ((c+(a+e)) / 4294967296) (us.set (i+j) ((c+(a+e)) % 4294967296)) _ (by have:=W.o;omega) ((J.o.drewN _).setU _ _ (by omega)) (by omega) ?_ ?_ S.o
  . rw[getD_set_ne _ _ _ _ (by omega)];exact M.o
  . intro p X;rw[getD_set_ne _ _ _ _ (by omega)];exact K.o p X
theorem Qn1(Q:Exit->Act->World->Prop)(g:Vz)(h i cv k l n j L R m:Nat)(v o:Vy)(a b c d e:Value)(p:L<=1099511627776)(q:j+(n+2)<L)
 (f:BackExit Q g h i cv k l n j L R m v o a b c d e) (t:Nat):BackAt Q g h i cv k l n j L R m v o a b c d e t:=by
 induction t with
 |zero=>exact Qnz Q g h i cv k l n j L R m v o a b c d e p q f
 |succ t r=>exact Qn0 Q g h i cv k l n j L R m v o a b c d e p q t r
def TakeExit(Q:Exit->Act->World->Prop)(w3:Vz)(bv ov cv gu gq n j L R a2 g:Nat)(v qs:Vy)(x10 x15 x16 x17:Value):Prop:=
 ∀(c d:Nat) (us:Vy) {s0 s1 s2 s3 s4 s5 s6 s7 s8 s9 s14 s19 s21 s24 s25 s26 s27 s28 s29 s30 s31 s32 s33 s34 s35 s36 s37 s38 s39 s40 s41 s42 s43 s44 s45 s46 s47 s48 s49 s50 s51 s52 s53 s54 s55 s56 s57 s58 s59 s60 s61 s62 s63 s64 s65 s66 s67 s68 s69 s70 s71 s72 s73 s74 s75 s76 s77 s78 s79 s80 s81 s82 s83 s84 s85 s86 s87 s88 s89 s90 s91 s92 s93 s94 s95 s96 s97 s98 s99 s100 s101 s102 s103 s104 s105 s106 s107 s108 s109 s110 s111 s112 s113 s114 s115 s116 s117 s118 s119 s120 s121 s122 s123 s124 s125 s126 s127 s128 s129 s130 s131 s132 s133 s134 s135 s136 s137 s138 s139 s140 s141 s142 s143 s144 s145 s146 s147 s148 s149 s150 s151 s152 s153 s154 s155 s156 s157 s158 s159 s160 s161 s162 s163 s164 s165 s166 s167 s168 s169 s170 s171 s172 s173 s174 s175 s176 s177 s178 s179 s180 s181 s182 s183 s184 s185 s186 s187 s188 s189 s190 s191 s192 s193 s194 s195 s196 s197 s198 s199 s200 s201 s202 s203 s204 s205 s206 s207 s208 s209 s210 s211 s212 s213 s214 s215 s216 s217 s218 s219 s220 s221 s222 s223 s224 s225 s226 s227 s228 s229 s230 s231 s232 s233 s234 s235 s236 s237 s238 s239 s240 s241 s242 s243 s244 s245 s246 s247 s248 s249 s250 s251 s252 s253 s254 s255 s256 s257 s258 s259 s260 s261 s262 s263 s264 s265 s266 s267 s268 s269 s270 s271 s272:Value} (wr:Vz),DivMem w3 wr bv ov gu gq n L v us qs->c<4294967296->d<=1->us.getD (j+(n+2)) 0=a2->(∀p,j+(n+2)<p->us.getD p 0=0)->
    val 4294967296 (us.take (j+(n+2)))+4294967296 ^ j*(g*val 4294967296 (v.take (n+2)))=R+4294967296 ^ (j+(n+2))*(c+d)->
    Q (.exit 4) ⟨#[s0,s1,s2,s3,s4,s5,s6,s7,s8,s9,x10,.slice (some ⟨bv,ov,none⟩) (n+2) cv,.slice (some ⟨gu,0,none⟩) L L,.int .i64 ((n:Int)+2),s14,x15,x16,x17,.int .i64 (j:Int),s19,.int .u64 (g:Int),s21,.int .u64 (c:Int),.int .u64 (d:Int),s24,s25,s26,s27,s28,s29,s30,s31,s32,s33,s34,s35,s36,s37,s38,s39,s40,s41,s42,s43,s44,s45,s46,s47,s48,s49,s50,s51,s52,s53,s54,s55,s56,s57,s58,s59,s60,s61,s62,s63,s64,s65,s66,s67,s68,s69,s70,s71,s72,s73,s74,s75,s76,s77,s78,s79,s80,s81,s82,s83,s84,s85,s86,s87,s88,s89,s90,s91,s92,s93,s94,s95,s96,s97,s98,s99,s100,s101,s102,s103,s104,s105,s106,s107,s108,s109,s110,s111,s112,s113,s114,s115,s116,s117,s118,s119,s120,s121,s122,s123,s124,s125,s126,s127,s128,s129,s130,s131,s132,s133,s134,s135,s136,s137,s138,s139,s140,s141,s142,s143,s144,s145,s146,s147,s148,s149,s150,s151,s152,s153,s154,s155,s156,s157,s158,s159,s160,s161,s162,s163,s164,s165,s166,s167,s168,s169,s170,s171,s172,s173,s174,s175,s176,s177,s178,s179,s180,s181,s182,s183,s184,s185,s186,s187,s188,s189,s190,s191,s192,s193,s194,s195,s196,s197,s198,s199,s200,s201,s202,s203,s204,s205,s206,s207,s208,s209,s210,s211,s212,s213,s214,s215,s216,s217,s218,s219,s220,s221,s222,s223,s224,s225,s226,s227,s228,s229,s230,s231,s232,s233,s234,s235,s236,s237,s238,s239,s240,s241,s242,s243,s244,s245,s246,s247,s248,s249,s250,s251,s252,s253,s254,s255,s256,s257,s258,s259,s260,s261,s262,s263,s264,s265,s266,s267,s268,s269,s270,s271,s272],[]⟩ wr
def TakeAt(Q:Exit->Act->World->Prop)(w3:Vz)(bv ov cv gu gq n j L R a2 g:Nat)(v qs:Vy)(x10 x15 x16 x17:Value)(t:Nat):Prop:=
 ∀(i c d:Nat) (us:Vy) {s0 s1 s2 s3 s4 s5 s6 s7 s8 s9 s14 s19 s21 s25 s26 s27 s28 s29 s30 s31 s32 s33 s34 s35 s36 s37 s38 s39 s40 s41 s42 s43 s44 s45 s46 s47 s48 s49 s50 s51 s52 s53 s54 s55 s56 s57 s58 s59 s60 s61 s62 s63 s64 s65 s66 s67 s68 s69 s70 s71 s72 s73 s74 s75 s76 s77 s78 s79 s80 s81 s82 s83 s84 s85 s86 s87 s88 s89 s90 s91 s92 s93 s94 s95 s96 s97 s98 s99 s100 s101 s102 s103 s104 s105 s106 s107 s108 s109 s110 s111 s112 s113 s114 s115 s116 s117 s118 s119 s120 s121 s122 s123 s124 s125 s126 s127 s128 s129 s130 s131 s132 s133 s134 s135 s136 s137 s138 s139 s140 s141 s142 s143 s144 s145 s146 s147 s148 s149 s150 s151 s152 s153 s154 s155 s156 s157 s158 s159 s160 s161 s162 s163 s164 s165 s166 s167 s168 s169 s170 s171 s172 s173 s174 s175 s176 s177 s178 s179 s180 s181 s182 s183 s184 s185 s186 s187 s188 s189 s190 s191 s192 s193 s194 s195 s196 s197 s198 s199 s200 s201 s202 s203 s204 s205 s206 s207 s208 s209 s210 s211 s212 s213 s214 s215 s216 s217 s218 s219 s220 s221 s222 s223 s224 s225 s226 s227 s228 s229 s230 s231 s232 s233 s234 s235 s236 s237 s238 s239 s240 s241 s242 s243 s244 s245 s246 s247 s248 s249 s250 s251 s252 s253 s254 s255 s256 s257 s258 s259 s260 s261 s262 s263 s264 s265 s266 s267 s268 s269 s270 s271 s272:Value} (wr:Vz),i+t=n+2->DivMem w3 wr bv ov gu gq n L v us qs->c<4294967296->d<=1->us.getD (j+(n+2)) 0=a2->(∀p,j+(n+2)<p->us.getD p 0=0)->
    val 4294967296 (us.take (j+(n+2)))+4294967296 ^ j*(g*val 4294967296 (v.take i))=R+4294967296 ^ (j+i)*(c+d)->
    Code.rounds prog (((Tryz.f203.body.map loopsIn).getD []).getD 2 .skip) Q (t+1) ⟨#[s0,s1,s2,s3,s4,s5,s6,s7,s8,s9,x10,.slice (some ⟨bv,ov,none⟩) (n+2) cv,.slice (some ⟨gu,0,none⟩) L L,.int .i64 ((n:Int)+2),s14,x15,x16,x17,.int .i64 (j:Int),s19,.int .u64 (g:Int),s21,.int .u64 (c:Int),.int .u64 (d:Int),.int .i64 (i:Int),s25,s26,s27,s28,s29,s30,s31,s32,s33,s34,s35,s36,s37,s38,s39,s40,s41,s42,s43,s44,s45,s46,s47,s48,s49,s50,s51,s52,s53,s54,s55,s56,s57,s58,s59,s60,s61,s62,s63,s64,s65,s66,s67,s68,s69,s70,s71,s72,s73,s74,s75,s76,s77,s78,s79,s80,s81,s82,s83,s84,s85,s86,s87,s88,s89,s90,s91,s92,s93,s94,s95,s96,s97,s98,s99,s100,s101,s102,s103,s104,s105,s106,s107,s108,s109,s110,s111,s112,s113,s114,s115,s116,s117,s118,s119,s120,s121,s122,s123,s124,s125,s126,s127,s128,s129,s130,s131,s132,s133,s134,s135,s136,s137,s138,s139,s140,s141,s142,s143,s144,s145,s146,s147,s148,s149,s150,s151,s152,s153,s154,s155,s156,s157,s158,s159,s160,s161,s162,s163,s164,s165,s166,s167,s168,s169,s170,s171,s172,s173,s174,s175,s176,s177,s178,s179,s180,s181,s182,s183,s184,s185,s186,s187,s188,s189,s190,s191,s192,s193,s194,s195,s196,s197,s198,s199,s200,s201,s202,s203,s204,s205,s206,s207,s208,s209,s210,s211,s212,s213,s214,s215,s216,s217,s218,s219,s220,s221,s222,s223,s224,s225,s226,s227,s228,s229,s230,s231,s232,s233,s234,s235,s236,s237,s238,s239,s240,s241,s242,s243,s244,s245,s246,s247,s248,s249,s250,s251,s252,s253,s254,s255,s256,s257,s258,s259,s260,s261,s262,s263,s264,s265,s266,s267,s268,s269,s270,s271,s272],[]⟩ wr
theorem take_zero(Q:Exit->Act->World->Prop)(k:Vz)(l m cv p q n j L R r g:Nat)(v s:Vy)(b e f h:Value)(E:L<=1099511627776)(F:j+(n+2)<L)
 (a:TakeExit Q k l m cv p q n j L R r g v s b e f h):TakeAt Q k l m cv p q n j L R r g v s b e f h 0:=by
 intro i c d us
 iterate 261 intro
 intro wr G t y z u w x;obtain rfl:i=n+2:=by omega
 obtain⟨A,B,C,D⟩:=Ic x t w u;clear x t w u;rw[rounds_succ]
 conv=>arg 2;whnf
 go_wp2;exact a _ _ _ _ B.o y z D.o C.o A.o
theorem Qnw(Q:Exit->Act->World->Prop)(E:Vz)(F G cv H I n j L R J g:Nat)(v K:Vy)(l m q r:Value)(hL:L<=1099511627776)(hj:j+(n+2)<L)(hg:g<4294967296)(t:Nat)
 (ih:TakeAt Q E F G cv H I n j L R J g v K l m q r t):TakeAt Q E F G cv H I n j L R J g v K l m q r (t+1):=by
 intro i c d us
 iterate 261 intro
 intro wr M h hc hd N O P;obtain⟨HM,HZ,HA⟩:=Ib h O N;have z:=h.ul;obtain⟨e,x⟩:=nm (v.getD i 0);obtain⟨a,f⟩:∃a,us.getD (j+i) 0=a:=⟨_,rfl⟩;have A:e<4294967296:=by rw[<-x];exact h.vsmall.getD (by omega) _
 have B:a<4294967296:=by rw[<-f];exact h.usmall.getD (by omega) _
 have k1:=h.vcell i (by omega);have k2:=h.ub.cell (i+j) (by omega);have k3:=h.ub.free (i+j);rw[x] at k1;rw[Nat.add_comm i j,f,Nat.add_comm j i] at k2;have y:=Qd0 hg A;obtain⟨p,b⟩:∃p:Nat,g*e=p:=⟨_,rfl⟩;have aa:p<=18446744065119617025:=by rw[<-b];exact y
 obtain⟨S,C⟩:∃S:Nat,c+p=S:=⟨_,rfl⟩;obtain⟨lo,s⟩:∃lo:Nat,S % 4294967296=lo:=⟨_,rfl⟩;obtain⟨u,w⟩:∃u:Nat,S / 4294967296=u:=⟨_,rfl⟩;obtain⟨T,U,b1,b2,V,W,X⟩:=Qr0 a lo d B (by omega) hd;have k:=Qry 4294967296 j i (j+(n+2)) a c d g e T U R us v (by omega) (by omega) f x (by rw[b,C,s];exact V) P;rw[b,C,w] at k;obtain⟨HS,B4,B5⟩:=Ib k W X;have r1:(g:Int)*(e:Int)=(p:Int):=by rw[<-b];simp
 have r2:(c:Int)+(p:Int)=(S:Int):=by omega
 have r3:(S:Int) % 4294967296=(lo:Int):=by omega
 have r4:(S:Int) / 4294967296=(u:Int):=by omega
 have ab:S<18446744073709551616:=by omega
 have Y:lo<4294967296:=by omega
 have D:u<4294967296:=by omega
 have ad:i<n+2:=by omega
 have Z:i+j<L:=by omega
 have HI:=Hi M;clear P h O N x f k z M V W X y b C s w;rw[rounds_succ]
 conv=>arg 2;whnf
 go_wp2;simp only[Qaq,B4.o,B5.o];rw[show (i:Int)+1=((i+1:Nat):Int) from by omega];refine ih (i+1) u U (us.set (j+i) T) _ (by have:=HI.o;omega) ?_ D b2 ?_ ?_ HS.o
 . rw[Nat.add_comm j i];exact HM.o.setU _ _ b1
 . rw[getD_set_ne _ _ _ _ (by omega)];exact HA.o
 . intro p y;rw[getD_set_ne _ _ _ _ (by omega)];exact HZ.o p y
theorem Qnx(Q:Exit->Act->World->Prop)(f:Vz)(h i cv k l n j L R m g:Nat)(v o:Vy)(a b c d:Value)(p:L<=1099511627776)(q:j+(n+2)<L)(r:g<4294967296)
 (e:TakeExit Q f h i cv k l n j L R m g v o a b c d) (t:Nat):TakeAt Q f h i cv k l n j L R m g v o a b c d t:=by
 induction t with
 |zero=>exact take_zero Q f h i cv k l n j L R m g v o a b c d p q e
 |succ t s=>exact Qnw Q f h i cv k l n j L R m g v o a b c d p q r t s
def GuessExit(Qx:Exit->Act->World->Prop)(w3:Vz)(bv ov cv gu gq n j L v1 v0 Q:Nat)(v us qs:Vy)(x10 x15:Value):Prop:=
 ∀(g:Nat) {s0 s1 s2 s3 s4 s5 s6 s7 s8 s9 s14 s19 s21 s22 s23 s24 s25 s26 s27 s28 s29 s30 s31 s32 s33 s34 s35 s36 s37 s38 s39 s40 s41 s42 s43 s44 s45 s46 s47 s48 s49 s50 s51 s52 s53 s54 s55 s56 s57 s58 s59 s60 s61 s62 s63 s64 s65 s66 s67 s68 s69 s70 s71 s72 s73 s74 s75 s76 s77 s78 s79 s80 s81 s82 s83 s84 s85 s86 s87 s88 s89 s90 s91 s92 s93 s94 s95 s96 s97 s98 s99 s100 s101 s102 s103 s104 s105 s106 s107 s108 s109 s110 s111 s112 s113 s114 s115 s116 s117 s118 s119 s120 s121 s122 s123 s124 s125 s126 s127 s128 s129 s130 s131 s132 s133 s134 s135 s136 s137 s138 s139 s140 s141 s142 s143 s144 s145 s146 s147 s148 s149 s150 s151 s152 s153 s154 s155 s156 s157 s158 s159 s160 s161 s162 s163 s164 s165 s166 s167 s168 s169 s170 s171 s172 s173 s174 s175 s176 s177 s178 s179 s180 s181 s182 s183 s184 s185 s186 s187 s188 s189 s190 s191 s192 s193 s194 s195 s196 s197 s198 s199 s200 s201 s202 s203 s204 s205 s206 s207 s208 s209 s210 s211 s212 s213 s214 s215 s216 s217 s218 s219 s220 s221 s222 s223 s224 s225 s226 s227 s228 s229 s230 s231 s232 s233 s234 s235 s236 s237 s238 s239 s240 s241 s242 s243 s244 s245 s246 s247 s248 s249 s250 s251 s252 s253 s254 s255 s256 s257 s258 s259 s260 s261 s262 s263 s264 s265 s266 s267 s268 s269 s270 s271 s272:Value} (wr:Vz),DivMem w3 wr bv ov gu gq n L v us qs->g<4294967296->Q<=g->g<=Q+1->
    Qx (.exit 2) ⟨#[s0,s1,s2,s3,s4,s5,s6,s7,s8,s9,x10,.slice (some ⟨bv,ov,none⟩) (n+2) cv,.slice (some ⟨gu,0,none⟩) L L,.int .i64 ((n:Int)+2),s14,x15,.int .u64 (v1:Int),.int .u64 (v0:Int),.int .i64 (j:Int),s19,.int .u64 (g:Int),s21,s22,s23,s24,s25,s26,s27,s28,s29,s30,s31,s32,s33,s34,s35,s36,s37,s38,s39,s40,s41,s42,s43,s44,s45,s46,s47,s48,s49,s50,s51,s52,s53,s54,s55,s56,s57,s58,s59,s60,s61,s62,s63,s64,s65,s66,s67,s68,s69,s70,s71,s72,s73,s74,s75,s76,s77,s78,s79,s80,s81,s82,s83,s84,s85,s86,s87,s88,s89,s90,s91,s92,s93,s94,s95,s96,s97,s98,s99,s100,s101,s102,s103,s104,s105,s106,s107,s108,s109,s110,s111,s112,s113,s114,s115,s116,s117,s118,s119,s120,s121,s122,s123,s124,s125,s126,s127,s128,s129,s130,s131,s132,s133,s134,s135,s136,s137,s138,s139,s140,s141,s142,s143,s144,s145,s146,s147,s148,s149,s150,s151,s152,s153,s154,s155,s156,s157,s158,s159,s160,s161,s162,s163,s164,s165,s166,s167,s168,s169,s170,s171,s172,s173,s174,s175,s176,s177,s178,s179,s180,s181,s182,s183,s184,s185,s186,s187,s188,s189,s190,s191,s192,s193,s194,s195,s196,s197,s198,s199,s200,s201,s202,s203,s204,s205,s206,s207,s208,s209,s210,s211,s212,s213,s214,s215,s216,s217,s218,s219,s220,s221,s222,s223,s224,s225,s226,s227,s228,s229,s230,s231,s232,s233,s234,s235,s236,s237,s238,s239,s240,s241,s242,s243,s244,s245,s246,s247,s248,s249,s250,s251,s252,s253,s254,s255,s256,s257,s258,s259,s260,s261,s262,s263,s264,s265,s266,s267,s268,s269,s270,s271,s272],[]⟩ wr
def GuessAt(Qx:Exit->Act->World->Prop)(w3:Vz)(bv ov cv gu gq n j L v1 v0 Q hh:Nat)(v us qs:Vy)(x10 x15:Value)(t:Nat):Prop:=
 ∀(g r:Nat) {s0 s1 s2 s3 s4 s5 s6 s7 s8 s9 s14 s19 s22 s23 s24 s25 s26 s27 s28 s29 s30 s31 s32 s33 s34 s35 s36 s37 s38 s39 s40 s41 s42 s43 s44 s45 s46 s47 s48 s49 s50 s51 s52 s53 s54 s55 s56 s57 s58 s59 s60 s61 s62 s63 s64 s65 s66 s67 s68 s69 s70 s71 s72 s73 s74 s75 s76 s77 s78 s79 s80 s81 s82 s83 s84 s85 s86 s87 s88 s89 s90 s91 s92 s93 s94 s95 s96 s97 s98 s99 s100 s101 s102 s103 s104 s105 s106 s107 s108 s109 s110 s111 s112 s113 s114 s115 s116 s117 s118 s119 s120 s121 s122 s123 s124 s125 s126 s127 s128 s129 s130 s131 s132 s133 s134 s135 s136 s137 s138 s139 s140 s141 s142 s143 s144 s145 s146 s147 s148 s149 s150 s151 s152 s153 s154 s155 s156 s157 s158 s159 s160 s161 s162 s163 s164 s165 s166 s167 s168 s169 s170 s171 s172 s173 s174 s175 s176 s177 s178 s179 s180 s181 s182 s183 s184 s185 s186 s187 s188 s189 s190 s191 s192 s193 s194 s195 s196 s197 s198 s199 s200 s201 s202 s203 s204 s205 s206 s207 s208 s209 s210 s211 s212 s213 s214 s215 s216 s217 s218 s219 s220 s221 s222 s223 s224 s225 s226 s227 s228 s229 s230 s231 s232 s233 s234 s235 s236 s237 s238 s239 s240 s241 s242 s243 s244 s245 s246 s247 s248 s249 s250 s251 s252 s253 s254 s255 s256 s257 s258 s259 s260 s261 s262 s263 s264 s265 s266 s267 s268 s269 s270 s271 s272:Value} (wr:Vz),g<=t->DivMem w3 wr bv ov gu gq n L v us qs->g<18446744073709551616->r<4294967296->g*v1+r=hh->Q<=g->
    Code.rounds prog (((Tryz.f203.body.map loopsIn).getD []).getD 1 .skip) Qx (t+1) ⟨#[s0,s1,s2,s3,s4,s5,s6,s7,s8,s9,x10,.slice (some ⟨bv,ov,none⟩) (n+2) cv,.slice (some ⟨gu,0,none⟩) L L,.int .i64 ((n:Int)+2),s14,x15,.int .u64 (v1:Int),.int .u64 (v0:Int),.int .i64 (j:Int),s19,.int .u64 (g:Int),.int .u64 (r:Int),s22,s23,s24,s25,s26,s27,s28,s29,s30,s31,s32,s33,s34,s35,s36,s37,s38,s39,s40,s41,s42,s43,s44,s45,s46,s47,s48,s49,s50,s51,s52,s53,s54,s55,s56,s57,s58,s59,s60,s61,s62,s63,s64,s65,s66,s67,s68,s69,s70,s71,s72,s73,s74,s75,s76,s77,s78,s79,s80,s81,s82,s83,s84,s85,s86,s87,s88,s89,s90,s91,s92,s93,s94,s95,s96,s97,s98,s99,s100,s101,s102,s103,s104,s105,s106,s107,s108,s109,s110,s111,s112,s113,s114,s115,s116,s117,s118,s119,s120,s121,s122,s123,s124,s125,s126,s127,s128,s129,s130,s131,s132,s133,s134,s135,s136,s137,s138,s139,s140,s141,s142,s143,s144,s145,s146,s147,s148,s149,s150,s151,s152,s153,s154,s155,s156,s157,s158,s159,s160,s161,s162,s163,s164,s165,s166,s167,s168,s169,s170,s171,s172,s173,s174,s175,s176,s177,s178,s179,s180,s181,s182,s183,s184,s185,s186,s187,s188,s189,s190,s191,s192,s193,s194,s195,s196,s197,s198,s199,s200,s201,s202,s203,s204,s205,s206,s207,s208,s209,s210,s211,s212,s213,s214,s215,s216,s217,s218,s219,s220,s221,s222,s223,s224,s225,s226,s227,s228,s229,s230,s231,s232,s233,s234,s235,s236,s237,s238,s239,s240,s241,s242,s243,s244,s245,s246,s247,s248,s249,s250,s251,s252,s253,s254,s255,s256,s257,s258,s259,s260,s261,s262,s263,s264,s265,s266,s267,s268,s269,s270,s271,s272],[]⟩ wr
structure GuessOk (n j L v1 v0 u0 Q hh:Nat) (us:Vy):Prop where
 o1:L<=1099511627776
 o2:j+(n+2)<L
 o3:1<=v1
 o4:v1<4294967296
 o5:v0<4294967296
 o6:us.getD (j+n) 0=u0
 o7:u0<4294967296
 o8:Q<4294967296
 down:∀g r,g*v1+r=hh->r*4294967296+u0<g*v0->Q<g
 done:∀g r,g*v1+r=hh->g<4294967296->g*v0<=r*4294967296+u0->g<=Q+1
 brk:∀g r,g*v1+r=hh->4294967296<=r->g<4294967296
theorem Qhq(Qx:Exit->Act->World->Prop)(w3:Vz)(bv ov cv gu gq n j L v1 d a Q hh:Nat)(v us qs:Vy)(e f:Value)(ok:GuessOk n j L v1 d a Q hh us)
 (b:GuessExit Qx w3 bv ov cv gu gq n j L v1 d Q v us qs e f) (t g r:Nat) {s0 s1 s2 s3 s4 s5 s6 s7 s8 s9 eq er es et eu ev ew ex ey ez e0 e1 e2 e3 e4 e5 e6 e7 e8 e9 fa fb fc fd fe ff fg fh fi fj fk fl fm fn fo fp fq fr fs ft fu fv fw fx fy fz ga gb gc gd ge gf gg gh gj gk gl gm gn gp gr gs gt gv gw gx gy gz g0 g1 g2 g3 g4 g5 g6 g7 g8 g9 ha hb h i k l m q s u w x y z A B C D E F G H I J K M N O P R S U V W X Y Z aa ab ad ae af ag ah ai aj ak al am an ao ap aq ar au av aw ax ay az a0 a1 a2 a3 a4 a5 a6 a7 a8 a9 ba bb bc bd be bf bg bh bi bj bk bl bm bn bo bp bq br bs bt bu bw bx bz b0 b1 b2 b3 b4 b5 b6 b7 b8 b9 ca cb cc cd ce cf cg ch ci cj ck cl cm cn cp cq cr cs ct cu cw cx cy cz c0 c1 c2 c3 c4 c5 c6 c7 c8 c9 da db dc dd de df dg dh di dj dk dl dm dn dp dq dr ds dt du dv dw dx dy dz ea eb ec ed ee ef eg eh ei ej ek em:Value} (wr:Vz) (hm:DivMem w3 wr bv ov gu gq n L v us qs) (hr:r<4294967296) (en:g*v1+r=hh) (hQ:Q<=g)
 (hg:g<4294967296) (hc:g*d<=r*4294967296+a):
   Code.rounds prog (((Tryz.f203.body.map loopsIn).getD []).getD 1 .skip) Qx (t+1) ⟨#[s0,s1,s2,s3,s4,s5,s6,s7,s8,s9,e,.slice (some ⟨bv,ov,none⟩) (n+2) cv,.slice (some ⟨gu,0,none⟩) L L,.int .i64 ((n:Int)+2),eq,f,.int .u64 (v1:Int),.int .u64 (d:Int),.int .i64 (j:Int),er,.int .u64 (g:Int),.int .u64 (r:Int),es,et,eu,ev,ew,ex,ey,ez,e0,e1,e2,e3,e4,e5,e6,e7,e8,e9,fa,fb,fc,fd,fe,ff,fg,fh,fi,fj,fk,fl,fm,fn,fo,fp,fq,fr,fs,ft,fu,fv,fw,fx,fy,fz,ga,gb,gc,gd,ge,gf,gg,gh,gj,gk,gl,gm,gn,gp,gr,gs,gt,gv,gw,gx,gy,gz,g0,g1,g2,g3,g4,g5,g6,g7,g8,g9,ha,hb,h,i,k,l,m,q,s,u,w,x,y,z,A,B,C,D,E,F,G,H,I,J,K,M,N,O,P,R,S,U,V,W,X,Y,Z,aa,ab,ad,ae,af,ag,ah,ai,aj,ak,al,am,an,ao,ap,aq,ar,au,av,aw,ax,ay,az,a0,a1,a2,a3,a4,a5,a6,a7,a8,a9,ba,bb,bc,bd,be,bf,bg,bh,bi,bj,bk,bl,bm,bn,bo,bp,bq,br,bs,bt,bu,bw,bx,bz,b0,b1,b2,b3,b4,b5,b6,b7,b8,b9,ca,cb,cc,cd,ce,cf,cg,ch,ci,cj,ck,cl,cm,cn,cp,cq,cr,cs,ct,cu,cw,cx,cy,cz,c0,c1,c2,c3,c4,c5,c6,c7,c8,c9,da,db,dc,dd,de,df,dg,dh,di,dj,dk,dl,dm,dn,dp,dq,dr,ds,dt,du,dv,dw,dx,dy,dz,ea,eb,ec,ed,ee,ef,eg,eh,ei,ej,ek,em],[]⟩ wr:=by
 obtain⟨o1,o2,o3,o4,o5,o6,o7,o8,o9,eo,hd⟩:=ok;have he:=hm.ul;have k2:=hm.ub.cell (j+(n+2) - 2) (by omega);rw[show us.getD (j+(n+2) - 2) 0=a from by rw[show j+(n+2) - 2=j+n from by omega];exact o6] at k2;have ep:=eo g r en hg hc;have HM:=Hi hm;have hp:=Qd0 hg o5;obtain⟨p,c⟩:∃p:Nat,g*d=p:=⟨_,rfl⟩;have hf:p<=18446744065119617025:=by rw[<-c];exact hp
 have r1:(g:Int)*(d:Int)=(p:Int):=by rw[<-c];simp
 obtain⟨T,hT⟩:∃T:Nat,4294967296*r+a=T:=⟨_,rfl⟩;have hi:bits .or .u64 ((r:Int)*4294967296) (a:Int)=(T:Int):=by
  rw[or64 ((r:Int)*4294967296) (a:Int) r a 32 (by omega) rfl o7 (by omega)];omega
 have hj:T<18446744073709551616:=by omega
 have hk:¬((T:Int)<(p:Int)):=by omega
 have hl:¬(4294967295:Int)<(g:Int):=by omega
 clear o9 eo hd hm hp c hT hc o6 en;rw[rounds_succ]
 conv=>arg 2;whnf
 go_wp2;exact b _ _ HM.o hg hQ ep
theorem Qnt(Qx:Exit->Act->World->Prop)(w3:Vz)(bv ov cv gu gq n j L b v0 u0 Q hh:Nat)(v us qs:Vy)(e f:Value)(ok:GuessOk n j L b v0 u0 Q hh us)
 (h:GuessExit Qx w3 bv ov cv gu gq n j L b v0 Q v us qs e f) (t g r:Nat) (ih:GuessAt Qx w3 bv ov cv gu gq n j L b v0 Q hh v us qs e f t) {s0 s1 s2 s3 s4 s5 s6 s7 s8 s9 eu ev ew ex ey ez e0 e3 e4 e5 e6 e7 e8 e9 fa fb fc fd fe ff fg fh fi fj fk fl fm fn fo fp fq fr fs ft fu fv fw fx fy fz ga gb gc gd ge gf gg gh gj gk gl gm gn gp gr gs gt gv gw gx gy gz g0 g2 g3 g4 g5 g6 g7 g8 g9 ha hc hd he hf hi hj hk hl p q s u w x y z A B C D E F G H I J K M N O P R S T U V W X Y Z aa ab ad ae af ag ah ai aj ak al am an ao ap aq ar au av aw ax ay az a0 a1 a2 a3 a4 a5 a6 a7 a8 a9 ba bb bc bd be bf bg bh bi bj bk bl bm bn bo bp bq br bs bt bu bw bx bz b0 b1 b2 b3 b4 b5 b6 b7 b8 b9 ca cb cc cd ce cf cg ch ci cj ck cl cm cn cp cq cr cs ct cu cw cx cy cz c0 c1 c2 c3 c4 c5 c6 c7 c8 c9 da db dc dd de df dg dh di dj dk dl dm dn dp dq dr ds dt du dv dw dx dy dz ea eb ec ed ee ef eh ei ej ek em en eo ep eq:Value} (wr:Vz) (es:g<=t+1) (hm:DivMem w3 wr bv ov gu gq n L v us qs) (hg:g<18446744073709551616) (hr:r<4294967296) (i:g*b+r=hh) (hQ:Q<=g)
 (et:4294967296<=g):
   Code.rounds prog (((Tryz.f203.body.map loopsIn).getD []).getD 1 .skip) Qx (t+1+1) ⟨#[s0,s1,s2,s3,s4,s5,s6,s7,s8,s9,e,.slice (some ⟨bv,ov,none⟩) (n+2) cv,.slice (some ⟨gu,0,none⟩) L L,.int .i64 ((n:Int)+2),eu,f,.int .u64 (b:Int),.int .u64 (v0:Int),.int .i64 (j:Int),ev,.int .u64 (g:Int),.int .u64 (r:Int),ew,ex,ey,ez,e0,e3,e4,e5,e6,e7,e8,e9,fa,fb,fc,fd,fe,ff,fg,fh,fi,fj,fk,fl,fm,fn,fo,fp,fq,fr,fs,ft,fu,fv,fw,fx,fy,fz,ga,gb,gc,gd,ge,gf,gg,gh,gj,gk,gl,gm,gn,gp,gr,gs,gt,gv,gw,gx,gy,gz,g0,g2,g3,g4,g5,g6,g7,g8,g9,ha,hc,hd,he,hf,hi,hj,hk,hl,p,q,s,u,w,x,y,z,A,B,C,D,E,F,G,H,I,J,K,M,N,O,P,R,S,T,U,V,W,X,Y,Z,aa,ab,ad,ae,af,ag,ah,ai,aj,ak,al,am,an,ao,ap,aq,ar,au,av,aw,ax,ay,az,a0,a1,a2,a3,a4,a5,a6,a7,a8,a9,ba,bb,bc,bd,be,bf,bg,bh,bi,bj,bk,bl,bm,bn,bo,bp,bq,br,bs,bt,bu,bw,bx,bz,b0,b1,b2,b3,b4,b5,b6,b7,b8,b9,ca,cb,cc,cd,ce,cf,cg,ch,ci,cj,ck,cl,cm,cn,cp,cq,cr,cs,ct,cu,cw,cx,cy,cz,c0,c1,c2,c3,c4,c5,c6,c7,c8,c9,da,db,dc,dd,de,df,dg,dh,di,dj,dk,dl,dm,dn,dp,dq,dr,ds,dt,du,dv,dw,dx,dy,dz,ea,eb,ec,ed,ee,ef,eh,ei,ej,ek,em,en,eo,ep,eq],[]⟩ wr:=by
 obtain⟨o1,o2,o3,o4,o5,o6,o7,o8,o9,k,l⟩:=ok;obtain⟨c,m⟩:∃c,g=c+1:=⟨g - 1,by omega⟩;have a:c*b+(r+b)=hh:=by rw[<-i,m,Nat.add_mul];omega
 have eg:(g:Int) - 1=(c:Int):=by omega
 have er:(r:Int)+(b:Int)=((r+b:Nat):Int):=by omega
 obtain⟨EG,ER,d,HM,hn⟩:=Id eg er m hm a;have hp:(4294967295:Int)<(g:Int):=by omega
 clear m eg er;by_cases hb:4294967296<=r+b
 .
  have e1:=l c (r+b) a hb;have e2:=k c (r+b) a e1 (Qj0 _ _ _ _ _ e1 o5 hb);obtain⟨E1,E2⟩:=Ia e1 e2;have ho:(4294967295:Int)<(r:Int)+(b:Int):=by omega
  have HQ:=Hi (show Q<=c by have:=d.o;omega);clear o9 k l hm o6 i a e1 e2 hb et es hQ;rw[rounds_succ]
  conv=>arg 2;whnf
  go_wp2;rw[EG.o];exact h c _ HM.o E1.o HQ.o E2.o
 .
  have ho:¬(4294967295:Int)<(r:Int)+(b:Int):=by omega
  obtain⟨HQ,HT,HB⟩:=Ib (show Q<=c by have:=d.o;omega) (show c<=t by have:=d.o;omega) (show r+b<4294967296 by omega);clear o9 k l hm o6 i a et es hQ hb;rw[rounds_succ]
  conv=>arg 2;whnf
  go_wp2;rw[EG.o,ER.o];exact ih c (r+b) _ HT.o HM.o (by have:=d.o;omega) HB.o hn.o HQ.o
theorem Qnu(Qx:Exit->Act->World->Prop)(w3:Vz)(bv ov cv gu gq n j L b h i Q hh:Nat)(v us qs:Vy)(k l:Value)(ok:GuessOk n j L b h i Q hh us)
 (m:GuessExit Qx w3 bv ov cv gu gq n j L b h Q v us qs k l) (t g r:Nat) (ih:GuessAt Qx w3 bv ov cv gu gq n j L b h Q hh v us qs k l t) {s0 s1 s2 s3 s4 s5 s6 s7 s8 s9 ey ez e0 e3 e4 e5 e6 e7 e8 e9 fa fb fc fd fe ff fg fh fi fj fk fl fm fn fo fp fq fr fs ft fu fv fw fx fy fz ga gb gc gd ge gf gg gh gj gk gl gm gn gp gr gs gt gv gw gx gy gz g0 g2 g3 g4 g5 g6 g7 g8 g9 ha hd he hf hi hj hk hl hn ho hq hs ht w x y z A B C D E F G H I J K M N O P R S U V W X Y Z aa ab ad ae af ag ah ai aj ak al am an ao ap aq ar au av aw ax ay az a0 a1 a2 a3 a4 a5 a6 a7 a8 a9 ba bb bc bd be bf bg bh bi bj bk bl bm bn bo bp bq br bs bt bu bw bx bz b0 b1 b2 b3 b4 b5 b6 b7 b8 b9 ca cb cc cd ce cf cg ch ci cj ck cl cm cn cp cq cr cs ct cu cw cx cy cz c0 c1 c2 c3 c4 c5 c6 c7 c8 c9 da db dc dd de df dg dh di dj dk dl dm dn dp dq dr ds dt du dv dw dx dy dz ea eb ec ed ee ef eh ei ej ek em en eo ep eq es et eu ev ew:Value} (wr:Vz) (ex:g<=t+1) (hm:DivMem w3 wr bv ov gu gq n L v us qs) (hr:r<4294967296) (d:g*b+r=hh) (hQ:Q<=g)
 (hg:g<4294967296) (hc:r*4294967296+i<g*h):
   Code.rounds prog (((Tryz.f203.body.map loopsIn).getD []).getD 1 .skip) Qx (t+1+1) ⟨#[s0,s1,s2,s3,s4,s5,s6,s7,s8,s9,k,.slice (some ⟨bv,ov,none⟩) (n+2) cv,.slice (some ⟨gu,0,none⟩) L L,.int .i64 ((n:Int)+2),ey,l,.int .u64 (b:Int),.int .u64 (h:Int),.int .i64 (j:Int),ez,.int .u64 (g:Int),.int .u64 (r:Int),e0,e3,e4,e5,e6,e7,e8,e9,fa,fb,fc,fd,fe,ff,fg,fh,fi,fj,fk,fl,fm,fn,fo,fp,fq,fr,fs,ft,fu,fv,fw,fx,fy,fz,ga,gb,gc,gd,ge,gf,gg,gh,gj,gk,gl,gm,gn,gp,gr,gs,gt,gv,gw,gx,gy,gz,g0,g2,g3,g4,g5,g6,g7,g8,g9,ha,hd,he,hf,hi,hj,hk,hl,hn,ho,hq,hs,ht,w,x,y,z,A,B,C,D,E,F,G,H,I,J,K,M,N,O,P,R,S,U,V,W,X,Y,Z,aa,ab,ad,ae,af,ag,ah,ai,aj,ak,al,am,an,ao,ap,aq,ar,au,av,aw,ax,ay,az,a0,a1,a2,a3,a4,a5,a6,a7,a8,a9,ba,bb,bc,bd,be,bf,bg,bh,bi,bj,bk,bl,bm,bn,bo,bp,bq,br,bs,bt,bu,bw,bx,bz,b0,b1,b2,b3,b4,b5,b6,b7,b8,b9,ca,cb,cc,cd,ce,cf,cg,ch,ci,cj,ck,cl,cm,cn,cp,cq,cr,cs,ct,cu,cw,cx,cy,cz,c0,c1,c2,c3,c4,c5,c6,c7,c8,c9,da,db,dc,dd,de,df,dg,dh,di,dj,dk,dl,dm,dn,dp,dq,dr,ds,dt,du,dv,dw,dx,dy,dz,ea,eb,ec,ed,ee,ef,eh,ei,ej,ek,em,en,eo,ep,eq,es,et,eu,ev,ew],[]⟩ wr:=by
 obtain⟨o1,o2,o3,o4,o5,o6,o7,o8,o9,q,s⟩:=ok;have hw:=o9 g r d hc;have hx:=hm.ul;have k2:=hm.ub.cell (j+(n+2) - 2) (by omega);rw[show us.getD (j+(n+2) - 2) 0=i from by rw[show j+(n+2) - 2=j+n from by omega];exact o6] at k2;have hp:=Qd0 hg o5;obtain⟨p,e⟩:∃p:Nat,g*h=p:=⟨_,rfl⟩;have hy:p<=18446744065119617025:=by rw[<-e];exact hp
 have r1:(g:Int)*(h:Int)=(p:Int):=by rw[<-e];simp
 obtain⟨T,hT⟩:∃T:Nat,4294967296*r+i=T:=⟨_,rfl⟩;have hz:bits .or .u64 ((r:Int)*4294967296) (i:Int)=(T:Int):=by
  rw[or64 ((r:Int)*4294967296) (i:Int) r i 32 (by omega) rfl o7 (by omega)];omega
 have h0:T<18446744073709551616:=by omega
 have h1:(T:Int)<(p:Int):=by omega
 obtain⟨c,u⟩:∃c,g=c+1:=⟨g - 1,by omega⟩;have a:c*b+(r+b)=hh:=by rw[<-d,u,Nat.add_mul];omega
 have eg:(g:Int) - 1=(c:Int):=by omega
 have er:(r:Int)+(b:Int)=((r+b:Nat):Int):=by omega
 obtain⟨EG,ER,f,HM,hu⟩:=Id eg er u hm a;have h2:¬(4294967295:Int)<(g:Int):=by omega
 have h3:(1:Int)<=(g:Int):=by omega
 clear u eg er;by_cases hb:4294967296<=r+b
 .
  have e1:=s c (r+b) a hb;have e2:=q c (r+b) a e1 (Qj0 _ _ _ _ _ e1 o5 hb);obtain⟨E1,E2⟩:=Ia e1 e2;have hv:(4294967295:Int)<(r:Int)+(b:Int):=by omega
  have HQ:=Hi (show Q<=c by have:=f.o;omega);clear o9 q s hm o6 d a hp e hT hc e1 e2 hb ex hQ;rw[rounds_succ]
  conv=>arg 2;whnf
  go_wp2;rw[EG.o];exact m c _ HM.o E1.o HQ.o E2.o
 .
  have hv:¬(4294967295:Int)<(r:Int)+(b:Int):=by omega
  obtain⟨HQ,HT,HB⟩:=Ib (show Q<=c by have:=f.o;omega) (show c<=t by have:=f.o;omega) (show r+b<4294967296 by omega);clear o9 q s hm o6 d a hp e hT hc ex hQ hb;rw[rounds_succ]
  conv=>arg 2;whnf
  go_wp2;rw[EG.o,ER.o];exact ih c (r+b) _ HT.o HM.o (by have:=f.o;omega) HB.o hu.o HQ.o
theorem Qnv(i:Exit->Act->World->Prop)(k:Vz)(l m cv o p n j L f e q Q s:Nat)(v us u:Vy)(b c:Value)(z:GuessOk n j L f e q Q s us)
 (a:GuessExit i k l m cv o p n j L f e Q v us u b c) (t:Nat):GuessAt i k l m cv o p n j L f e Q s v us u b c t:=by
 induction t with
 |zero=>
  intro g r
  iterate 263 intro
  intro wr h w A x d y;obtain rfl:g=0:=by omega
  exact Qhq i k l m cv o p n j L f e q Q s v us u b c z a 0 0 r wr w x d y (by omega) (by rw[Nat.zero_mul];omega)
 |succ t B=>
  intro g r
  iterate 263 intro
  intro wr h w A x d y;by_cases hB:4294967296<=g
  . exact Qnt i k l m cv o p n j L f e q Q s v us u b c z a t g r B wr h w A x d y hB
  .
   by_cases C:r*4294967296+q<g*e
   . exact Qnu i k l m cv o p n j L f e q Q s v us u b c z a t g r B wr h w x d y (by omega) C
   . exact Qhq i k l m cv o p n j L f e q Q s v us u b c z a (t+1) g r wr w x d y (by omega) (by omega)
def PlaceExit(Qx:Exit->Act->World->Prop)(w3:Vz)(bv ov cv gu gq n M L X V:Nat)(v:Vy)(x10:Value):Prop:=
 ∀(us qs:Vy) {s0 s1 s2 s3 s4 s5 s6 s7 s8 s9 s11 s13 s14 s16 s17 s18 s19 s20 s21 s22 s23 s24 s25 s26 s27 s28 s29 s30 s31 s32 s33 s34 s35 s36 s37 s38 s39 s40 s41 s42 s43 s44 s45 s46 s47 s48 s49 s50 s51 s52 s53 s54 s55 s56 s57 s58 s59 s60 s61 s62 s63 s64 s65 s66 s67 s68 s69 s70 s71 s72 s73 s74 s75 s76 s77 s78 s79 s80 s81 s82 s83 s84 s85 s86 s87 s88 s89 s90 s91 s92 s93 s94 s95 s96 s97 s98 s99 s100 s101 s102 s103 s104 s105 s106 s107 s108 s109 s110 s111 s112 s113 s114 s115 s116 s117 s118 s119 s120 s121 s122 s123 s124 s125 s126 s127 s128 s129 s130 s131 s132 s133 s134 s135 s136 s137 s138 s139 s140 s141 s142 s143 s144 s145 s146 s147 s148 s149 s150 s151 s152 s153 s154 s155 s156 s157 s158 s159 s160 s161 s162 s163 s164 s165 s166 s167 s168 s169 s170 s171 s172 s173 s174 s175 s176 s177 s178 s179 s180 s181 s182 s183 s184 s185 s186 s187 s188 s189 s190 s191 s192 s193 s194 s195 s196 s197 s198 s199 s200 s201 s202 s203 s204 s205 s206 s207 s208 s209 s210 s211 s212 s213 s214 s215 s216 s217 s218 s219 s220 s221 s222 s223 s224 s225 s226 s227 s228 s229 s230 s231 s232 s233 s234 s235 s236 s237 s238 s239 s240 s241 s242 s243 s244 s245 s246 s247 s248 s249 s250 s251 s252 s253 s254 s255 s256 s257 s258 s259 s260 s261 s262 s263 s264 s265 s266 s267 s268 s269 s270 s271 s272:Value} (wr:Vz),DivMem w3 wr bv ov gu gq n L v us qs->DivInv X V n M 0 us qs->
    Qx (.exit 0) ⟨#[s0,s1,s2,s3,s4,s5,s6,s7,s8,s9,x10,s11,.slice (some ⟨gu,0,none⟩) L L,s13,s14,.slice (some ⟨gq,0,none⟩) (M+1) (M+1),s16,s17,s18,s19,s20,s21,s22,s23,s24,s25,s26,s27,s28,s29,s30,s31,s32,s33,s34,s35,s36,s37,s38,s39,s40,s41,s42,s43,s44,s45,s46,s47,s48,s49,s50,s51,s52,s53,s54,s55,s56,s57,s58,s59,s60,s61,s62,s63,s64,s65,s66,s67,s68,s69,s70,s71,s72,s73,s74,s75,s76,s77,s78,s79,s80,s81,s82,s83,s84,s85,s86,s87,s88,s89,s90,s91,s92,s93,s94,s95,s96,s97,s98,s99,s100,s101,s102,s103,s104,s105,s106,s107,s108,s109,s110,s111,s112,s113,s114,s115,s116,s117,s118,s119,s120,s121,s122,s123,s124,s125,s126,s127,s128,s129,s130,s131,s132,s133,s134,s135,s136,s137,s138,s139,s140,s141,s142,s143,s144,s145,s146,s147,s148,s149,s150,s151,s152,s153,s154,s155,s156,s157,s158,s159,s160,s161,s162,s163,s164,s165,s166,s167,s168,s169,s170,s171,s172,s173,s174,s175,s176,s177,s178,s179,s180,s181,s182,s183,s184,s185,s186,s187,s188,s189,s190,s191,s192,s193,s194,s195,s196,s197,s198,s199,s200,s201,s202,s203,s204,s205,s206,s207,s208,s209,s210,s211,s212,s213,s214,s215,s216,s217,s218,s219,s220,s221,s222,s223,s224,s225,s226,s227,s228,s229,s230,s231,s232,s233,s234,s235,s236,s237,s238,s239,s240,s241,s242,s243,s244,s245,s246,s247,s248,s249,s250,s251,s252,s253,s254,s255,s256,s257,s258,s259,s260,s261,s262,s263,s264,s265,s266,s267,s268,s269,s270,s271,s272],[]⟩ wr
def PlaceAt(Qx:Exit->Act->World->Prop)(w3:Vz)(bv ov cv gu gq n M L v1 v0 X V:Nat)(v:Vy)(x10:Value)(t:Nat):Prop:=
 ∀(us qs:Vy) {s0 s1 s2 s3 s4 s5 s6 s7 s8 s9 s14 s19 s20 s21 s22 s23 s24 s25 s26 s27 s28 s29 s30 s31 s32 s33 s34 s35 s36 s37 s38 s39 s40 s41 s42 s43 s44 s45 s46 s47 s48 s49 s50 s51 s52 s53 s54 s55 s56 s57 s58 s59 s60 s61 s62 s63 s64 s65 s66 s67 s68 s69 s70 s71 s72 s73 s74 s75 s76 s77 s78 s79 s80 s81 s82 s83 s84 s85 s86 s87 s88 s89 s90 s91 s92 s93 s94 s95 s96 s97 s98 s99 s100 s101 s102 s103 s104 s105 s106 s107 s108 s109 s110 s111 s112 s113 s114 s115 s116 s117 s118 s119 s120 s121 s122 s123 s124 s125 s126 s127 s128 s129 s130 s131 s132 s133 s134 s135 s136 s137 s138 s139 s140 s141 s142 s143 s144 s145 s146 s147 s148 s149 s150 s151 s152 s153 s154 s155 s156 s157 s158 s159 s160 s161 s162 s163 s164 s165 s166 s167 s168 s169 s170 s171 s172 s173 s174 s175 s176 s177 s178 s179 s180 s181 s182 s183 s184 s185 s186 s187 s188 s189 s190 s191 s192 s193 s194 s195 s196 s197 s198 s199 s200 s201 s202 s203 s204 s205 s206 s207 s208 s209 s210 s211 s212 s213 s214 s215 s216 s217 s218 s219 s220 s221 s222 s223 s224 s225 s226 s227 s228 s229 s230 s231 s232 s233 s234 s235 s236 s237 s238 s239 s240 s241 s242 s243 s244 s245 s246 s247 s248 s249 s250 s251 s252 s253 s254 s255 s256 s257 s258 s259 s260 s261 s262 s263 s264 s265 s266 s267 s268 s269 s270 s271 s272:Value} (wr:Vz),t<=M+1->DivMem w3 wr bv ov gu gq n L v us qs->DivInv X V n M t us qs->
    Code.rounds prog (((Tryz.f203.body.map loopsIn).getD []).getD 0 .skip) Qx (t+1) ⟨#[s0,s1,s2,s3,s4,s5,s6,s7,s8,s9,x10,.slice (some ⟨bv,ov,none⟩) (n+2) cv,.slice (some ⟨gu,0,none⟩) L L,.int .i64 ((n:Int)+2),s14,.slice (some ⟨gq,0,none⟩) (M+1) (M+1),.int .u64 (v1:Int),.int .u64 (v0:Int),.int .i64 ((t:Int) - 1),s19,s20,s21,s22,s23,s24,s25,s26,s27,s28,s29,s30,s31,s32,s33,s34,s35,s36,s37,s38,s39,s40,s41,s42,s43,s44,s45,s46,s47,s48,s49,s50,s51,s52,s53,s54,s55,s56,s57,s58,s59,s60,s61,s62,s63,s64,s65,s66,s67,s68,s69,s70,s71,s72,s73,s74,s75,s76,s77,s78,s79,s80,s81,s82,s83,s84,s85,s86,s87,s88,s89,s90,s91,s92,s93,s94,s95,s96,s97,s98,s99,s100,s101,s102,s103,s104,s105,s106,s107,s108,s109,s110,s111,s112,s113,s114,s115,s116,s117,s118,s119,s120,s121,s122,s123,s124,s125,s126,s127,s128,s129,s130,s131,s132,s133,s134,s135,s136,s137,s138,s139,s140,s141,s142,s143,s144,s145,s146,s147,s148,s149,s150,s151,s152,s153,s154,s155,s156,s157,s158,s159,s160,s161,s162,s163,s164,s165,s166,s167,s168,s169,s170,s171,s172,s173,s174,s175,s176,s177,s178,s179,s180,s181,s182,s183,s184,s185,s186,s187,s188,s189,s190,s191,s192,s193,s194,s195,s196,s197,s198,s199,s200,s201,s202,s203,s204,s205,s206,s207,s208,s209,s210,s211,s212,s213,s214,s215,s216,s217,s218,s219,s220,s221,s222,s223,s224,s225,s226,s227,s228,s229,s230,s231,s232,s233,s234,s235,s236,s237,s238,s239,s240,s241,s242,s243,s244,s245,s246,s247,s248,s249,s250,s251,s252,s253,s254,s255,s256,s257,s258,s259,s260,s261,s262,s263,s264,s265,s266,s267,s268,s269,s270,s271,s272],[]⟩ wr
theorem Qnq(c:Exit->Act->World->Prop)(d:Vz)(e f cv g h n M L k l X V:Nat)(v:Vy)(b:Value)(a:PlaceExit c d e f cv g h n M L X V v b):PlaceAt c d e f cv g h n M L k l X V v b 0:=by
 intro us q
 iterate 265 intro
 intro wr r i j;obtain⟨m,p⟩:=Ia i j;clear i j;rw[rounds_succ]
 conv=>arg 2;whnf
 go_wp2;exact a _ _ _ m.o p.o
theorem Qnr(Qx:Exit->Act->World->Prop)(w3:Vz)(bv ov cv gu gq n M L f v0 X V:Nat)(v:Vy)(l:Value)(hL:L=M+n+3)(O:L<=1099511627776)(P:Num 4294967296 v V)(R:v.length=n+2)(S:v.getD (n+1) 0=f)(U:v.getD n 0=v0)(h1:1<=f)
 (j:Nat) (ih:PlaceAt Qx w3 bv ov cv gu gq n M L f v0 X V v l j):PlaceAt Qx w3 bv ov cv gu gq n M L f v0 X V v l (j+1):=by
 intro us W
 iterate 265 intro
 intro wr ai hm H;have aj:f<4294967296:=by rw[<-S];exact P.small.getD (by omega) _
 have ak:v0<4294967296:=by rw[<-U];exact P.small.getD (by omega) _
 have m:0<V:=by
  have y:=P.trim.pow_le (B:=4294967296) (by omega);rw[P.eq] at y;have e2:0<4294967296 ^ (v.length - 1):=Nat.pow_pos (by omega);omega
 have az:=H.ulen;have ei:((j+1:Nat):Int) - 1=(j:Int):=by omega
 rw[ei];clear ei;obtain⟨q,r⟩:∃d,us.getD (j+(n+2)) 0=d:=⟨_,rfl⟩;obtain⟨u1,A⟩:∃d,us.getD (j+(n+1)) 0=d:=⟨_,rfl⟩;obtain⟨u0,C⟩:∃d,us.getD (j+n) 0=d:=⟨_,rfl⟩;have b2:q<4294967296:=by rw[<-r];exact H.usmall.getD (by omega) _
 have b1:u1<4294967296:=by rw[<-A];exact H.usmall.getD (by omega) _
 have b0:u0<4294967296:=by rw[<-C];exact H.usmall.getD (by omega) _
 have g2:=hm.ub.cell (j+(n+2)) (by omega);have g1:=hm.ub.cell (j+(n+1)) (by omega);rw[r] at g2;rw[A] at g1;obtain⟨s,al⟩:=nm (q*4294967296+u1);obtain⟨Q,hQ⟩:=nm (val 4294967296 us / (4294967296 ^ j*V));obtain⟨G1,G2,G3,G4⟩:=H.guess (by omega) P R r A C S U h1 al hQ;have am:=H.q_lt m;rw[hQ] at am;have ok:GuessOk n j L f v0 u0 Q s us:=⟨O,by omega,h1,aj,ak,C,b0,am,G2,G3,G4⟩;have a0:bits .or .u64 ((q:Int)*4294967296) (u1:Int)=(s:Int):=by
  rw[or64 ((q:Int)*4294967296) (u1:Int) q u1 32 (by omega) rfl b1 (by omega)];omega
 have a1:s<18446744073709551616:=by omega
 obtain⟨t,u⟩:∃t,s / f=t:=⟨_,rfl⟩;obtain⟨Y,D⟩:∃Y,s % f=Y:=⟨_,rfl⟩;have t1:(s:Int) / (f:Int)=(t:Int):=by rw[<-u];simp
 have t2:(s:Int) % (f:Int)=(Y:Int):=by rw[<-D];simp
 have t3:(s:Int).tmod (f:Int)=(Y:Int):=by rw[Int.tmod_eq_emod_of_nonneg (by omega)];exact t2
 have t4:(s:Int).tdiv (f:Int)=(t:Int):=by rw[Int.tdiv_eq_ediv_of_nonneg (by omega)];exact t1
 have Z:t<18446744073709551616:=by rw[<-u];exact Nat.lt_of_le_of_lt (Nat.div_le_self _ _) a1
 have a2:Y<f:=by rw[<-D];exact Nat.mod_lt _ (by omega)
 have t5:=Qcc t Z;have an:t*f+Y=s:=by rw[<-u,<-D,Nat.mul_comm];exact Nat.div_add_mod _ _
 have h:Q<=t:=by rw[<-u];exact G1
 have qv:((f:Int) == 0)=false:=by rw[beq_eq_false_iff_ne];omega
 obtain⟨OK,HM,I,HQ,ao,a3,i,E,HL⟩:=Ih ok hm H hQ r an P R hL;have F:=Hi ai;have k:j+(n+2)<L:=by omega
 have ba:(j:Int)+((n:Int)+2)<(L:Int):=by omega
 have bb:(0:Int)<=(j:Int)+((n:Int)+2):=by omega
 have bc:(j:Int)+((n:Int)+2) - 1<(L:Int):=by omega
 have bd:(0:Int)<=(j:Int)+((n:Int)+2) - 1:=by omega
 clear G1 G2 G3 G4 u D an hQ r A C H hm al az P R S U ok hL ai;rw[rounds_succ]
 conv=>arg 2;whnf
 go_wp2;go_quiet (fail);go_wp2;go_quiet (fail);go_wp2;refine wp_loop_rounds (t+1) ?_;refine(Qnv _ w3 bv ov cv gu gq n j L f v0 u0 Q s v us W l _ OK.o ?hex t) t Y _ lZ ((HM.o.drewN _).drewN _) Z (by omega) a3.o h
 case hex=>
  clear g1 g2 a0 t1 t2 t3 t4 t5 Z a2 h qv;intro g
  iterate 264 intro
  intro be ap a4 h aa;go_wp2;refine wp_loop_rounds (n+2+1) ?_;refine(Qnx _ w3 bv ov cv gu gq n j L (val 4294967296 (us.take (j+(n+2)))) q g v W l _ _ _ O k a4 ?hex2 (n+2)) 0 0 0 us _ (by omega) ap (by omega) (by omega) ao.o ?hz2 ?hv2
  case hz2=>
   intro p hp;have y:=HL.o;have e2:=F.o;have e3:=Qab (B:=4294967296) (by omega) i.o.small;rw[i.o.eq,E.o] at e3;have e4:=I.o.zero (by omega) e3;exact Qr2 4294967296 (by omega) us (j+(n+2)) e4 p hp
  case hv2=>simp[val]
  case hex2=>
   intro c d us1
   iterate 262 intro
   intro bf b hc hd ha hz ab;have a5:=I.o.qlen;have w:=b.ul;have k0:=b.ub.cell (j+(n+2)) (by omega);have k1:=b.ub.free (j+(n+2));rw[ha] at k0;have f0:=b.qb.cell j (by have:=F.o;omega);have f1:=b.qb.free j;obtain⟨z,aq⟩:=nm (W.getD j 0);rw[aq] at f0;have ad:=Qab (B:=4294967296) (by omega) i.o.small;rw[i.o.eq,E.o] at ad;have hU:val 4294967296 us=val 4294967296 (us.take (j+(n+2)))+4294967296 ^ (j+(n+2))*q:=by
    have y:=HL.o;have e2:=F.o;exact Qj3 4294967296 us (j+(n+2)) q (by have:=I.o.ulen;omega) ao.o (I.o.zero (by omega) ad)
   have x:val 4294967296 (us1.take (j+(n+2)))<4294967296 ^ (j+(n+2)):=by
    have y:=Qab (B:=4294967296) (by omega) (b.usmall.take (j+(n+2)));rw[List.length_take,w,Nat.min_eq_left (by omega)] at y;exact y
   rw[show v.take (n+2)=v from List.take_of_length_le (by rw[E.o];exact Nat.le_refl _),i.o.eq] at ab;have J:=Qrz 4294967296 j (n+2) q c d g _ _ V _ x hU m (by omega) ab (by rw[HQ.o];exact h) (by rw[HQ.o];exact aa) (by omega);have hD:4294967296 ^ j*V<=4294967296 ^ (j+(n+2)):=by rw[Nat.pow_add];exact Nat.mul_le_mul_left _ (by omega)
   have K:=Nat.mod_lt (val 4294967296 us) (Nat.mul_pos (Nat.pow_pos (n:=j) (show 0<4294967296 by omega)) m);rw[HQ.o] at J;obtain⟨ae,HZ,HD,ar,af⟩:=Id b hz hD K w;have bg:(j:Int)<(M:Int)+1:=by have:=F.o;omega
   have bh:=Hi I.o;clear hD K ab hU ad hz b w a5 aq ha x ap;rcases J with ⟨rfl,ag,e⟩|⟨au,ag,e⟩
   .
    have tt:IntKind.u64.wrap (IntKind.u64.wrap ((q:Int) - (c:Int)) - (d:Int))=0:=by
     rw[Qaq,Qaq];omega
    have ah:=Hi e;clear e ag h aa;go_wp2;refine ih (us1.set (j+(n+2)) 0) (W.set j g) _ (by have:=F.o;omega) ((ae.o.setU _ 0 (by omega)).setQ j g) (I.o.next (by have:=F.o;omega) m HQ.o (by rw[List.length_set,af.o,HL.o]) (ae.o.usmall.set _ (by omega)) ?_);rw[Qj4 _ _ _ (by rw[af.o];exact k) HZ.o];exact ah.o
   .
    obtain⟨T,hT⟩:∃T:Nat,T=18446744073709551615:=⟨_,rfl⟩;have tt:IntKind.u64.wrap (IntKind.u64.wrap ((q:Int) - (c:Int)) - (d:Int))=(T:Int):=by
     rw[Qaq,Qaq];omega
    have t1:(T:Int) % 4294967296=4294967295:=by omega
    have t2:(T:Int) / 9223372036854775808=1:=by omega
    have a6:T<18446744073709551616:=by omega
    have eg:(g:Int) - 1=(Q:Int):=by omega
    have EG:=Hi eg;have a7:(1:Int)<=(g:Int):=by omega
    have ah:=Hi e;clear e ag h aa hT eg au;go_wp2;rw[EG.o];refine wp_loop_rounds (n+2+1) ?_;refine(Qn1 _ w3 bv ov cv gu gq n j L (val 4294967296 (us1.take (j+(n+2)))) 4294967295 v W l _ _ _ _ O k ?hex3 (n+2)) 0 0 (us1.set (j+(n+2)) 4294967295) _ (by omega) (ae.o.setU _ 4294967295 (by omega)) (by omega) (Qbj _ _ _ (by rw[af.o];exact k)) ?hz3 ?hv3
    case hz3=>intro p hp;rw[getD_set_ne _ _ _ _ (by omega)];exact HZ.o p hp
    case hv3=>rw[List.take_set_of_le lZ];simp[val]
    case hex3=>
     clear k0 k1 f0 f1 tt t1 t2 a6 a7;intro c3 av
     iterate 263 intro
     intro bi a aw ax hz3 hv3;have k0:=a.ub.cell (j+(n+2)) (by rw[a.ul];exact k);have k1:=a.ub.free (j+(n+2));rw[ax] at k0;have f0:=a.qb.cell j (by have:=F.o;have:=I.o.qlen;omega);have f1:=a.qb.free j;obtain⟨z',N⟩:∃z,W.getD j 0=z:=⟨_,rfl⟩;rw[N] at f0;have x:val 4294967296 (av.take (j+(n+2)))<4294967296 ^ (j+(n+2)):=by
      have y:=Qab (B:=4294967296) (by omega) (a.usmall.take (j+(n+2)));rw[List.length_take,a.ul,Nat.min_eq_left (by omega)] at y;exact y
     rw[show v.take (n+2)=v from List.take_of_length_le (by rw[E.o];exact Nat.le_refl _),i.o.eq,ah.o] at hv3;obtain⟨a8,e⟩:=Qr4 _ _ c3 _ _ x ar.o HD.o aw hv3;subst a8;obtain⟨G,a9,ay⟩:=Ib a hz3 e;clear a hz3 e hv3 x ax N aw;go_wp2;refine ih (av.set (j+(n+2)) 0) (W.set j Q) _ (by have:=F.o;omega) ((G.o.setU _ 0 (by omega)).setQ j Q) (I.o.next (by have:=F.o;omega) m HQ.o (by rw[List.length_set,G.o.ul,HL.o]) (G.o.usmall.set _ (by omega)) ?_);rw[Qj4 _ _ _ (by rw[G.o.ul];exact k) a9.o];exact ay.o
theorem Qns(d:Exit->Act->World->Prop)(e:Vz)(f g cv h i n M L c j X V:Nat)(v:Vy)(a:Value)(p:L=M+n+3)(k:L<=1099511627776)(q:Num 4294967296 v V)(l:v.length=n+2)(m:v.getD (n+1) 0=c)(o:v.getD n 0=j)(r:1<=c)
 (b:PlaceExit d e f g cv h i n M L X V v a) (t:Nat):PlaceAt d e f g cv h i n M L c j X V v a t:=by
 induction t with
 |zero=>exact Qnq d e f g cv h i n M L c j X V v a b
 |succ t s=>exact Qnr d e f g cv h i n M L c j X V v a p k q l m o r t s
end Go.Proofs.YtkkadnoecklepaaGreatDoor
