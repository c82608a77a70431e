/- Plain mathematics: the value of a list of digits, the least first, in whatever base; lists without a nought at the end; how many bits a number has. No Go in it. -/
namespace Go.Proofs.YtbbkamnfjejceaaGreatDoor
set_option linter.unusedVariables false
def val(B:Nat):List Nat→Nat
 | []=>0
 |d :: l=>d+B*val B l
theorem Qca(B:Nat):val B []=0:=rfl
theorem Qa7(B d:Nat)(l:List Nat):val B (d :: l)=d+B*val B l:=rfl
theorem Qcb(B:Nat)(l m:List Nat):val B (l++m)=val B l+B ^ l.length*val B m:=by
 induction l with
 |nil=>simp[val]
 |cons d l ih=>
  simp only[List.cons_append,val,ih,List.length_cons,Nat.pow_succ,Nat.mul_add,Nat.add_assoc];rw[Nat.mul_comm (B ^ l.length) B,Nat.mul_assoc]
theorem Qai(B:Nat)(l:List Nat)(d:Nat):val B (l++ [d])=val B l+B ^ l.length*d:=by
 rw[Qcb];simp[val]
def Small(B:Nat)(l:List Nat):Prop:=∀d,d∈ l→d<B
theorem Small.nil(B:Nat):Small B []:=fun d h=>by cases h
theorem Small.append{B:Nat}{l m:List Nat}(h:Small B l)(k:Small B m):Small B (l++m):=fun d hd=>by
 rcases List.mem_append.1 hd with h1|h1
 · exact h d h1
 · exact k d h1
theorem Small.take{B:Nat}{l:List Nat}(h:Small B l)(n:Nat):Small B (l.take n):=fun d hd=>h d (List.mem_of_mem_take hd)
theorem Small.drop{B:Nat}{l:List Nat}(h:Small B l)(n:Nat):Small B (l.drop n):=fun d hd=>h d (List.mem_of_mem_drop hd)
theorem Small.set{B:Nat}{l:List Nat}(h:Small B l)(i:Nat){d:Nat}(k:d<B):Small B (l.set i d):=fun e he=>by
 rcases List.mem_or_eq_of_mem_set he with h1|h1
 · exact h e h1
 · subst h1;exact k
theorem Small.getD{B:Nat}{l:List Nat}(h:Small B l)(hB:0<B)(i:Nat):l.getD i 0<B:=by
 by_cases hi:i<l.length
 · rw[List.getD_eq_getElem?_getD,List.getElem?_eq_getElem hi]
   exact h _ (List.getElem_mem hi)
 · rw[List.getD_eq_getElem?_getD,List.getElem?_eq_none (by omega)]
   exact hB
theorem Small.replicate(B n:Nat)(hB:0<B):Small B (List.replicate n 0):=fun d hd=>by
 have:=List.eq_of_mem_replicate hd;omega
theorem Qab{B:Nat}{l:List Nat}(hB:0<B)(h:Small B l):val B l<B ^ l.length:=by
 induction l with
 |nil=>simp[val]
 |cons d l ih=>
  have h1:=ih (fun e he=>h e (List.mem_cons_of_mem _ he));have h2:=h d (List.mem_cons_self ..);simp only[val,List.length_cons,Nat.pow_succ];rw[Nat.mul_comm (B ^ l.length) B];have h3:B*(val B l+1)≤B*B ^ l.length:=Nat.mul_le_mul_left B h1;rw[Nat.mul_add] at h3;omega
theorem Qh4(B n:Nat):val B (List.replicate n 0)=0:=by
 induction n with
 |zero=>rfl
 |succ n ih=>simp[List.replicate_succ,val,ih]
theorem Qbi(B:Nat)(l:List Nat)(k:Nat)(h:k<l.length):val B (l.take (k+1))=val B (l.take k)+B ^ k*l.getD k 0:=by
 rw[List.take_succ_eq_append_getElem h,Qai,List.length_take,Nat.min_eq_left (by omega),List.getD_eq_getElem?_getD,List.getElem?_eq_getElem h];rfl
theorem Qax(B:Nat)(l:List Nat)(k:Nat)(h:l.length≤k):val B (l.take k)=val B l:=by
 rw[List.take_of_length_le h]
theorem Qac(B:Nat)(l:List Nat)(k:Nat):val B (l.take (k+1))=val B (l.take k)+B ^ k*l.getD k 0:=by
 by_cases h:k<l.length
 · exact Qbi B l k h
 · rw[Qax _ _ _ (by omega),Qax _ _ _ (by omega),List.getD_eq_getElem?_getD,List.getElem?_eq_none (by omega)]
   simp
theorem Qah(B:Nat)(l:List Nat)(k:Nat)(h:k≤l.length):val B l=val B (l.take k)+B ^ k*val B (l.drop k):=by
 conv=>lhs;rw[←List.take_append_drop k l]
 rw[Qcb,List.length_take,Nat.min_eq_left h]
theorem Qbs(l:List Nat)(k:Nat)(h:k<l.length):l.drop k=l.getD k 0 :: l.drop (k+1):=by
 rw[List.drop_eq_getElem_cons h,List.getD_eq_getElem?_getD,List.getElem?_eq_getElem h];rfl
theorem Qal(B:Nat)(l:List Nat)(k:Nat)(h:k<l.length):val B (l.drop k)=l.getD k 0+B*val B (l.drop (k+1)):=by
 rw[Qbs l k h,Qa7]
theorem take_set(l:List Nat)(k d:Nat)(h:k<l.length):(l.set k d).take (k+1)=l.take k++ [d]:=by
 rw[List.take_succ_eq_append_getElem (by simpa using h),List.take_set_of_le (Nat.le_refl _)];simp
def Trim(l:List Nat):Prop:=l= []∨l.getD (l.length - 1) 0≠0
theorem Trim.pow_le{B:Nat}{l:List Nat}(h:Trim l)(hl:0<l.length):B ^ (l.length - 1)≤val B l:=by
 rcases h with rfl|h
 · simp at hl
 ·
  have e:=Qah B l (l.length - 1) (by omega);have e2:=Qal B l (l.length - 1) (by omega);rw[e,e2];have h1:1≤l.getD (l.length - 1) 0+B*val B (l.drop (l.length - 1+1)):=by omega
  have:=Nat.mul_le_mul_left (B ^ (l.length - 1)) h1;omega
theorem Qh5{B:Nat}{l:List Nat}(hB:0<B)(h:Trim l):val B l=0↔l= []:=by
 constructor
 ·
  intro e;by_cases hl:0<l.length
  ·
   have h1:=h.pow_le (B:=B) hl;have h2:0<B ^ (l.length - 1):=Nat.pow_pos hB;omega
  · exact List.eq_nil_of_length_eq_zero (by omega)
 · rintro rfl;rfl
theorem Qbj{B:Nat}(hB:0<B){m n:Nat}(h:m≤n):B ^ m≤B ^ n:=Nat.pow_le_pow_right hB h
theorem Qao{B:Nat}{l m:List Nat}(hB:0<B)(hl:Small B l)(hm:Trim m)(h:l.length<m.length):val B l<val B m:=by
 have h1:=Qab hB hl;have h2:=hm.pow_le (B:=B) (by omega);have h3:=Qbj hB (show l.length≤m.length - 1 by omega);omega
theorem Qej{B:Nat}{d:Nat}{x:Nat}(h:d<B):(d+B*x) % B=d:=by
 rw[Nat.add_mul_mod_self_left,Nat.mod_eq_of_lt h]
theorem Qek{B:Nat}{d:Nat}{x:Nat}(h:d<B):(d+B*x) / B=x:=by
 rw[Nat.add_mul_div_left _ _ (by omega),Nat.div_eq_of_lt h,Nat.zero_add]
theorem Qel{B:Nat}:∀{l m:List Nat},Small B l→Small B m→l.length=m.length→val B l=val B m→l=m
 | [],[],_,_,_,_=>rfl
 | [],_ :: _,_,_,h,_=>by simp at h
 |_ :: _,[],_,_,h,_=>by simp at h
 |d :: l,e :: m,h1,h2,h3,h4=>by
  have hd:=h1 d (List.mem_cons_self ..);have he:=h2 e (List.mem_cons_self ..);simp only[val] at h4;have e1:d=e:=by rw[←Qej (x:=val B l) hd,←Qej (x:=val B m) he,h4]
  have e2:val B l=val B m:=by rw[←Qek (x:=val B l) hd,←Qek (x:=val B m) he,h4]
  rw[e1,Qel (fun x hx=>h1 x (List.mem_cons_of_mem _ hx)) (fun x hx=>h2 x (List.mem_cons_of_mem _ hx)) (by simpa using h3) e2]
structure Num (B:Nat) (l:List Nat) (n:Nat):Prop where
 small:Small B l
 trim:Trim l
 eq:val B l=n
theorem Num.inj{B:Nat}{l m:List Nat}{n:Nat}(hB:0<B)(h:Num B l n)(k:Num B m n):l=m:=by
 have e:l.length=m.length:=by
  rcases Nat.lt_trichotomy l.length m.length with h1|h1|h1
  · have:=Qao hB h.small k.trim h1;have:=h.eq;have:=k.eq;omega
  · exact h1
  · have:=Qao hB k.small h.trim h1;have:=h.eq;have:=k.eq;omega
 exact Qel h.small k.small e (h.eq.trans k.eq.symm)
theorem Num.zero(B:Nat):Num B [] 0:=⟨Small.nil B,.inl rfl,rfl⟩
theorem Num.nil_iff{B:Nat}{l:List Nat}{n:Nat}(hB:0<B)(h:Num B l n):n=0↔l= []:=by
 rw[←h.eq];exact Qh5 hB h.trim
theorem Num.len_zero{B:Nat}{l:List Nat}{n:Nat}(hB:0<B)(h:Num B l n):n=0↔l.length=0:=by
 rw[h.nil_iff hB];exact List.length_eq_zero_iff.symm
theorem Num.length_le_of_lt{B:Nat}{l:List Nat}{n k:Nat}(hB:0<B)(h:Num B l n)(hn:n<B ^ k):l.length≤k:=by
 apply Classical.byContradiction;intro hc;have h1:=h.trim.pow_le (B:=B) (by omega);have h2:=Qbj hB (show k≤l.length - 1 by omega);rw[h.eq] at h1;omega
def nb(n:Nat):Nat:=if n=0 then 0 else n.log2+1
theorem Qc9(n:Nat):n<2 ^ nb n:=by
 unfold nb
 split
 · omega
 · exact Nat.lt_log2_self
theorem nb_le{n k:Nat}(h:n<2 ^ k):nb n≤k:=by
 unfold nb
 split
 · omega
 · rename_i h0
   exact(Nat.log2_lt h0).2 h
theorem Qh6:nb 0=0:=rfl
theorem Qcc{n:Nat}(h:0<n):1≤nb n:=by unfold nb;rw[if_neg (by omega)];omega
theorem Qem{n k:Nat}(h:k<nb n):2 ^ k≤n:=by
 apply Classical.byContradiction;intro hc;have:=nb_le (n:=n) (k:=k) (by omega);omega
theorem Num.nb_le{q:Nat}{l:List Nat}{n:Nat}(h:Num (2 ^ q) l n):nb n≤q*l.length:=by
 apply Go.Proofs.YtbbkamnfjejceaaGreatDoor.nb_le;have:=Qab (Nat.pow_pos (by omega)) h.small;rw[h.eq,←Nat.pow_mul] at this;exact this
end Go.Proofs.YtbbkamnfjejceaaGreatDoor
