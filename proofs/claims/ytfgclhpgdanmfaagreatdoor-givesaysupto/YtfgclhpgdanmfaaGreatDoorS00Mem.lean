import Derived.Test.YtfgclhpgdanmfaaGreatDoorChecked
import Derived.WalkKit
import Derived.Below
import Derived.OwnWalk
import Derived.Outline
import Derived.Deep.OwnRows
namespace Go.Proofs.YtfgclhpgdanmfaaGreatDoor
set_option linter.defProp false
open Go.RowKit
open Go.Proofs.Tryz
set_option linter.unusedSimpArgs false
set_option linter.unusedVariables false
set_option maxHeartbeats 8000000
set_option maxRecDepth 1000000
variable{B a b c cap d e f g i n x y:Nat}{l m:List Nat}{k:IntKind}{j r s:Option Value}{P Q h p:Prop}{α:Type}
def val(B:Nat):List Nat→Nat
 | []=>0
 |d :: l=>d+B*val B l
def GW(B:Nat):val B []=0:=rfl
def DE(B d:Nat)(l:List Nat):val B (d :: l)=d+B*val B l:=rfl
def GV(B:Nat)(l m:List Nat):val B (l++m)=val B l+B ^ l.length*val B m:=by
 induction l with
 |nil=>simp[val]
 |cons d l a=> simp only[List.cons_append,val,a,List.length_cons,Nat.pow_succ,Nat.mul_add,Nat.add_assoc];rw[Nat.mul_comm (B ^ l.length) B,Nat.mul_assoc]
def wu(B:Nat)(l:List Nat)(d:Nat):val B (l++ [d])=val B l+B ^ l.length*d:=by rw[GV];simp[val]
def Small(B:Nat)(l:List Nat):Prop:=∀d,d∈ l→d<B
def Small.nil(B:Nat):Small B []:=fun d h=>by cases h
def Small.append(h:Small B l)(k:Small B m):Small B (l++m):=fun d b=>by
 rcases List.mem_append.1 b with a|a
 · exact h d a
 · exact k d a
def Small.take(h:Small B l)(n:Nat):Small B (l.take n):=fun d a=>h d (List.mem_of_mem_take a)
def Small.drop(h:Small B l)(n:Nat):Small B (l.drop n):=fun d a=>h d (List.mem_of_mem_drop a)
def Small.set(h:Small B l)(i:Nat)(k:d<B):Small B (l.set i d):=fun e b=>by
 rcases List.mem_or_eq_of_mem_set b with a|a
 · exact h e a
 · subst a;exact k
def Small.getD(h:Small B l)(hB:0<B)(i:Nat):l.getD i 0<B:=by
 by_cases a:i<l.length
 · rw[List.getD_eq_getElem?_getD,List.getElem?_eq_getElem a]
   exact h _ (List.getElem_mem a)
 · rw[List.getD_eq_getElem?_getD,List.getElem?_eq_none (by omega)]
   exact hB
def Small.replicate(B n:Nat)(hB:0<B):Small B (List.replicate n 0):=fun d a=>by have:=List.eq_of_mem_replicate a;omega
def qi(hB:0<B)(h:Small B l):val B l<B ^ l.length:=by
 induction l with
 |nil=>simp[val]
 |cons d l a=> have b:=a (fun e c=>h e (List.mem_cons_of_mem _ c));have g:=h d (List.mem_cons_self ..);simp only[val,List.length_cons,Nat.pow_succ];rw[Nat.mul_comm (B ^ l.length) B];have f:B*(val B l+1)≤B*B ^ l.length:=Nat.mul_le_mul_left B b;rw[Nat.mul_add]at f;omega
def Yz(B n:Nat):val B (List.replicate n 0)=0:=by
 induction n with
 |zero=>rfl
 |succ n a=>simp[List.replicate_succ,val,a]
def EQ(B:Nat)(l:List Nat)(k:Nat)(h:k<l.length):val B (l.take (k+1))=val B (l.take k)+B ^ k*l.getD k 0:=by rw[List.take_succ_eq_append_getElem h,wu,List.length_take,Nat.min_eq_left (by omega),List.getD_eq_getElem?_getD,List.getElem?_eq_getElem h];rfl
def DD(B:Nat)(l:List Nat)(k:Nat)(h:l.length≤k):val B (l.take k)=val B l:=by rw[List.take_of_length_le h]
def sW(B:Nat)(l:List Nat)(k:Nat):val B (l.take (k+1))=val B (l.take k)+B ^ k*l.getD k 0:=by
 by_cases h:k<l.length
 · exact EQ B l k h
 · rw[DD _ _ _ (by omega),DD _ _ _ (by omega),List.getD_eq_getElem?_getD,List.getElem?_eq_none (by omega)]
   simp
def vv(B:Nat)(l:List Nat)(k:Nat)(h:k≤l.length):val B l=val B (l.take k)+B ^ k*val B (l.drop k):=by
 conv=>lhs;rw[←List.take_append_drop k l]
 rw[GV,List.length_take,Nat.min_eq_left h]
def GU(l:List Nat)(k:Nat)(h:k<l.length):l.drop k=l.getD k 0 :: l.drop (k+1):=by rw[List.drop_eq_getElem_cons h,List.getD_eq_getElem?_getD,List.getElem?_eq_getElem h];rfl
def xb(B:Nat)(l:List Nat)(k:Nat)(h:k<l.length):val B (l.drop k)=l.getD k 0+B*val B (l.drop (k+1)):=by rw[GU l k h,DE]
def take_set(l:List Nat)(k d:Nat)(h:k<l.length):(l.set k d).take (k+1)=l.take k++ [d]:=by rw[List.take_succ_eq_append_getElem (by simpa using h),List.take_set_of_le (Nat.le_refl _)];simp
def Trim(l:List Nat):Prop:=l= []∨l.getD (l.length - 1) 0≠0
def Trim.pK(h:Trim l)(hl:0<l.length):B ^ (l.length - 1)≤val B l:=by
 rcases h with rfl|h
 · simp at hl
 ·
  have e:=vv B l (l.length - 1) (by omega);have a:=xb B l (l.length - 1) (by omega);rw[e,a];have b:1≤l.getD (l.length - 1) 0+B*val B (l.drop (l.length - 1+1)):=by omega
  have:=Nat.mul_le_mul_left (B ^ (l.length - 1)) b;omega
def Yy(hB:0<B)(h:Trim l):val B l=0↔l= []:=by
 constructor
 ·
  intro e;by_cases hl:0<l.length
  ·
   have a:=h.pK (B:=B) hl;have b:0<B ^ (l.length - 1):=Nat.pow_pos hB;omega
  · exact List.eq_nil_of_length_eq_zero (by omega)
 · rintro rfl;rfl
def FK(hB:0<B){m:Nat}(h:m≤n):B ^ m≤B ^ n:=Nat.pow_le_pow_right hB h
def zN(hB:0<B)(hl:Small B l)(a:Trim m)(h:l.length<m.length):val B l<val B m:=by have b:=qi hB hl;have c:=a.pK (B:=B) (by omega);have d:=FK hB (show l.length≤m.length - 1 by omega);omega
def PJ(h:d<B):(d+B*x) % B=d:=by rw[Nat.add_mul_mod_self_left,Nat.mod_eq_of_lt h]
def PI(h:d<B):(d+B*x) / B=x:=by rw[Nat.add_mul_div_left _ _ (by omega),Nat.div_eq_of_lt h,Nat.zero_add]
theorem PH:∀{l m:List Nat},Small B l→Small B m→l.length=m.length→val B l=val B m→l=m
 | [],[],_,_,_,_=>rfl
 | [],_ :: _,_,_,h,_=>by simp at h
 |_ :: _,[],_,_,h,_=>by simp at h
 |d :: l,e :: m,h1,h2,h3,h4=>by
  have b:=h1 d (List.mem_cons_self ..);have c:=h2 e (List.mem_cons_self ..);simp only[val]at h4;have f:d=e:=by rw[←PJ (x:=val B l) b,←PJ (x:=val B m) c,h4]
  have g:val B l=val B m:=by rw[←PI (x:=val B l) b,←PI (x:=val B m) c,h4]
  rw[f,PH (fun x a=>h1 x (List.mem_cons_of_mem _ a)) (fun x a=>h2 x (List.mem_cons_of_mem _ a)) (by simpa using h3) g]
structure Num (B:Nat) (l:List Nat) (n:Nat):Prop where
 small:Small B l
 trim:Trim l
 eq:val B l=n
def Num.inj(hB:0<B)(h:Num B l n)(k:Num B m n):l=m:=by
 have e:l.length=m.length:=by
  rcases Nat.lt_trichotomy l.length m.length with a|a|a
  · have:=zN hB h.small k.trim a;have:=h.eq;have:=k.eq;omega
  · exact a
  · have:=zN hB k.small h.trim a;have:=h.eq;have:=k.eq;omega
 exact PH h.small k.small e (h.eq.trans k.eq.symm)
def Num.zero(B:Nat):Num B [] 0:=⟨Small.nil B,.inl rfl,rfl⟩
def rH:=@Num.zero
def Num.Cf(hB:0<B)(h:Num B l n):n=0↔l= []:=by rw[←h.eq];exact Yy hB h.trim
def Num.eV(hB:0<B)(h:Num B l n):n=0↔l.length=0:=by rw[h.Cf hB];exact List.length_eq_zero_iff.symm
def Num.fG{k:Nat}(hB:0<B)(h:Num B l n)(b:n<B ^ k):l.length≤k:=by apply Classical.byContradiction;intro c;have a:=h.trim.pK (B:=B) (by omega);have d:=FK hB (show k≤l.length - 1 by omega);rw[h.eq]at a;omega
def nb(n:Nat):Nat:=if n=0 then 0 else n.log2+1
def LD(n:Nat):n<2 ^ nb n:=by
 unfold nb
 split
 · omega
 · exact Nat.lt_log2_self
def nb_le{k:Nat}(h:n<2 ^ k):nb n≤k:=by
 unfold nb
 split
 · omega
 · rename_i a
   exact(Nat.log2_lt a).2 h
def Yx:nb 0=0:=rfl
def IJ(h:0<n):1≤nb n:=by unfold nb;rw[if_neg (by omega)];omega
def PG{k:Nat}(h:k<nb n):2 ^ k≤n:=by apply Classical.byContradiction;intro a;have:=nb_le (n:=n) (k:=k) (by omega);omega
def Num.nb_le{q:Nat}(h:Num (2 ^ q) l n):nb n≤q*l.length:=by apply Go.Proofs.YtfgclhpgdanmfaaGreatDoor.nb_le;have:=qi (Nat.pow_pos (by omega)) h.small;rw[h.eq,←Nat.pow_mul]at this;exact this
def kZ(x y:Nat):Int:=if x<y then -1 else if x=y then 0 else 1
def GS(h:x<y):kZ x y= -1:=by unfold kZ;rw[if_pos h]
def PE(h:x=y):kZ x y=0:=by unfold kZ;rw[if_neg (by omega),if_pos h]
def II(h:y<x):kZ x y=1:=by unfold kZ;rw[if_neg (by omega),if_neg (by omega)]
def zM(x y:Nat):kZ x y<0↔x<y:=by
 unfold kZ
 split
 · simp;assumption
 · split<;>simp<;>omega
def Yw(x y:Nat): -1≤kZ x y∧kZ x y≤1:=by
 unfold kZ
 split
 · omega
 · split<;>omega
def IH(hB:0<B)(hl:Small B l)(j:Nat)(a:j<l.length)(b:j<m.length)(c:l.drop (j+1)=m.drop (j+1))(h:l.getD j 0<m.getD j 0):val B l<val B m:=by rw[vv B l j (by omega),vv B m j (by omega),xb B l j a,xb B m j b,c];have d:=qi hB (hl.take j);rw[List.length_take,Nat.min_eq_left (by omega)]at d;have e:B ^ j*(l.getD j 0+B*val B (m.drop (j+1))+1)≤B ^ j*(m.getD j 0+B*val B (m.drop (j+1))):=Nat.mul_le_mul_left _ (by omega);rw[Nat.mul_add _ _ 1]at e;omega
def PD{j:Nat}(a:j<l.length)(b:j<m.length)(c:l.drop (j+1)=m.drop (j+1))(h:l.getD j 0=m.getD j 0):l.drop j=m.drop j:=by rw[GU l j a,GU m j b,c,h]
def Yv(B k c t R:Nat)(rs:List Nat)(hk:k<rs.length)(h:val B (rs.take k)+B ^ k*c=R):
 val B ((rs.set k ((c+t) % B)).take (k+1))+B ^ (k+1)*((c+t) / B)=R+B ^ k*t:=by
 rw[take_set _ _ _ hk,wu,List.length_take,Nat.min_eq_left (by omega),Nat.pow_succ];have e:=Nat.mod_add_div (c+t) B;have a:B ^ k*((c+t) % B+B*((c+t) / B))=B ^ k*(c+t):=by rw[e]
 rw[Nat.mul_add,Nat.mul_add,←Nat.mul_assoc]at a;omega
def FJ(l:List Nat)(k:Nat)(h:l.length≤k):l.getD k 0=0:=by rw[List.getD_eq_getElem?_getD,List.getElem?_eq_none h];rfl
def PC(B:Nat)(rs:List Nat)(n c:Nat)(h:rs.length=n+1):val B (rs.set n c)=val B (rs.take n)+B ^ n*c:=by rw[←DD B (rs.set n c) (n+1) (by simp;omega),take_set _ _ _ (by omega),wu,List.length_take,Nat.min_eq_left (by omega)]
def PB(k c d e:Nat)(rs l m:List Nat)(hk:k<rs.length)(a:l.getD k 0=d)(b:m.getD k 0=e)(h:val 4294967296 (rs.take k)+4294967296 ^ k*c=val 4294967296 (l.take k)+val 4294967296 (m.take k)):
 val 4294967296 ((rs.set k ((c+(d+e)) % 4294967296)).take (k+1))+4294967296 ^ (k+1)*((c+(d+e)) / 4294967296)=val 4294967296 (l.take (k+1))+val 4294967296 (m.take (k+1)):=by
 rw[Yv _ _ _ _ _ _ hk h,sW,sW,a,b,Nat.mul_add];omega
def LC(B k c d e r a:Nat)(rs l m:List Nat)(hk:k<rs.length)(b:l.getD k 0=d)(f:m.getD k 0=e)(g:r+c+e=d+B*a)(h:val B (rs.take k)+val B (m.take k)=val B (l.take k)+B ^ k*c):
 val B ((rs.set k r).take (k+1))+val B (m.take (k+1))=val B (l.take (k+1))+B ^ (k+1)*a:=by
 rw[take_set _ _ _ hk,wu,List.length_take,Nat.min_eq_left (by omega),sW,sW,b,f,Nat.pow_succ];have i:B ^ k*(r+c+e)=B ^ k*(d+B*a):=by rw[g]
 rw[Nat.mul_add,Nat.mul_add,Nat.mul_add,←Nat.mul_assoc]at i;omega
def PA(d c e:Nat)(b:d<4294967296)(f:e<4294967296)(g:c≤1):∃r a:Nat,r<4294967296∧a≤1∧r+c+e=d+4294967296*a∧
 ((((d:Int) - c) % 18446744073709551616 - e) % 18446744073709551616) % 4294967296=(r:Int)∧((((d:Int) - c) % 18446744073709551616 - e) % 18446744073709551616) / 9223372036854775808=(a:Int):=by
 by_cases h:d<c+e
 · exact⟨d+4294967296 - c - e,1,by omega,by omega,by omega,by omega,by omega⟩
 · exact⟨d - c - e,0,by omega,by omega,by omega,by omega,by omega⟩
def DC(B:Nat)(l:List Nat)(k d:Nat)(h:k<l.length):val B (l.set k d)+B ^ k*l.getD k 0=val B l+B ^ k*d:=by have a:=vv B (l.set k d) (k+1) (by simp;omega);have b:=vv B l (k+1) (by omega);rw[take_set _ _ _ h,wu,List.length_take,Nat.min_eq_left (by omega),List.drop_set_of_lt (by omega)]at a;rw[EQ B l k h]at b;omega
def Pz(l:List Nat)(k d q:Nat):(l.set k d).take q=(l.take q).set k d:=by rw[List.take_set]
def LB(l:List Nat)(q k:Nat)(h:k<q):(l.take q).getD k 0=l.getD k 0:=by rw[List.getD_eq_getElem?_getD,List.getD_eq_getElem?_getD,List.getElem?_take_of_lt h]
def Py(B p q c t d R:Nat)(rs:List Nat)(i:q≤rs.length)(a:p<q)(b:rs.getD p 0=d)(h:val B (rs.take q)+B ^ p*c=R):
 val B ((rs.set p ((c+(t+d)) % B)).take q)+B ^ (p+1)*((c+(t+d)) / B)=R+B ^ p*t:=by
 rw[Pz];have f:=DC B (rs.take q) p ((c+(t+d)) % B) (by rw[List.length_take];omega);rw[LB _ _ _ a,b]at f;have e:=Nat.mod_add_div (c+(t+d)) B;have g:B ^ p*((c+(t+d)) % B+B*((c+(t+d)) / B))=B ^ p*(c+(t+d)):=by rw[e]
 rw[Nat.mul_add,Nat.mul_add,Nat.mul_add,←Nat.mul_assoc]at g;rw[Nat.pow_succ];omega
def IF(a:d<B)(b:e<B):d*e≤(B - 1)*(B - 1):=Nat.mul_le_mul (by omega) (by omega)
def Yu(B k i d e t q c z V:Nat)(rs m:List Nat)(a:t=d*e)(b:m.getD i 0=e)(f:q≤rs.length)(g:k+i<q)(j:rs.getD (k+i) 0=z)(h:val B (rs.take q)+B ^ (k+i)*c=V+B ^ k*(d*val B (m.take i))):
 val B ((rs.set (k+i) ((c+(t+z)) % B)).take q)+B ^ (k+(i+1))*((c+(t+z)) / B)=V+B ^ k*(d*val B (m.take (i+1))):=by
 rw[show k+(i+1)=k+i+1 from by omega,Py B (k+i) q c t z _ rs f g j h,sW,b,a,Nat.pow_add,Nat.mul_add,Nat.mul_add];rw[Nat.mul_left_comm d (B ^ i) e,←Nat.mul_assoc (B ^ k) (B ^ i) (d*e)];omega
def XN(B k d c y n:Nat)(rs l:List Nat)(a:l.getD k 0=d)(b:k+n<rs.length)(h:val B (rs.take (k+n))+B ^ (k+n)*c=val B (l.take k)*y+B ^ k*(d*y)):
 val B ((rs.set (k+n) c).take (k+1+n))=val B (l.take (k+1))*y:=by
 rw[show k+1+n=k+n+1 from by omega,take_set _ _ _ b,wu,List.length_take,Nat.min_eq_left (by omega),h,sW,a,Nat.add_mul,Nat.mul_assoc]
def DB(l:List Nat)(k d:Nat)(h:k<l.length):(l.set k d).getD k 0=d:=by rw[List.getD_eq_getElem?_getD,List.getElem?_set_self h];rfl
def getD_set_ne(l:List Nat)(k d j:Nat)(h:k≠j):(l.set k d).getD j 0=l.getD j 0:=by rw[List.getD_eq_getElem?_getD,List.getD_eq_getElem?_getD,List.getElem?_set_ne h]
def ac:=@Go.RowKit.Below.refl
def aC:=@List.getD_eq_getElem?_getD
def aD:=@Option.some.inj
def aE:=@Nat.le_trans
def aF:=@Nat.lt_of_lt_of_le
def aH:=@if_neg
def aI:=@List.getElem?_cons_zero
def aJ:=@beq_eq_false_iff_ne
def aK:=@List.getElem?_toArray
def aM:=@List.getElem?_cons_succ
def aN:=@if_pos
def aO:=@List.getElem?_eq_none
def aP:=@List.getElem?_map
def aQ:=@List.length_set
def aR:=@List.getElem?_append_left
def aS:=@List.length_append
def aU:=@List.setIfInBounds_toArray
def aV:=@Nat.le_refl
def aW:=@List.getElem?_take_of_lt
def aX:=@List.getElem?_append_right
def aY:=@List.mem_cons
def aZ:=@Option.map_eq_some_iff
def bB:=@Nat.lt_or_ge
def bD:=@List.mem_append
def bE:=@List.mem_singleton
def bF:=@List.length_map
def bG:=@Go.results_cell_row
def bH:=@Go.World.size_alloc
def bI:=@Go.World.block_lt_of_cell?
def bJ:=@Go.World.cell?_of_block
def bK:=@Go.bodyPost_ret
def bL:=@List.take_of_length_le
def bM:=@List.Mem.head
def bN:=@List.getElem?_set_ne
def bO:=@List.cons_append
def bP:=@List.getElem?_set_self
def bQ:=@Nat.lt_of_le_of_lt
def bS:=@decide_eq_false
def bU:=@List.mem_cons_of_mem
def bV:=@Nat.mul_comm
def bX:=@List.set_cons_succ
def bZ:=@List.mem_map
def cC:=@Nat.zero_add
def cD:=@Nat.mul_le_mul_right
def cF:=@Nat.mul_add
def cH:=@List.nil_append
def cI:=@List.length_take
def cJ:=@Nat.zero_le
def cN:=@List.set_cons_zero
def cO:=@Nat.le_of_eq
def cP:=@Nat.pow_le_pow_right
def cR:=@Nat.mul_le_mul_left
def cU:=@List.Mem.tail
def cY:=@Int.natAbs_natCast
def cZ:=@And.intro
def dB:=@List.take_length
def dC:=@decide_eq_true
def dF:=@Array.getElem?_toList
def dG:=@List.drop_of_length_le
def dH:=@List.map_append
def dI:=@List.not_mem_nil
def dJ:=@List.length_cons
def dL:=@List.mem_range
def dM:=@List.getElem?_of_mem
def dN:=@List.mem_or_eq_of_mem_set
def dO:=@Nat.le_of_lt
def dQ:=@Nat.mul_assoc
def dR:=@List.mem_of_mem_take
def dS:=@List.mem_iff_getElem?
def dT:=@List.mem_cons_self
def dU:=@Nat.le_succ
def dV:=@Nat.add_zero
def dX:=@Array.getElem?_eq_none
def dY:=@List.map_cons
def dZ:=@Array.getD_eq_getD_getElem?
def eE:=@Nat.eq_zero_or_pos
def eG:=@Nat.pow_add
def eH:=@Nat.min_eq_left
def eP:=@Nat.mul_one
def eQ:=@Nat.gcd_pos_of_pos_right
def eU:=@Nat.mod_lt
def fA:=@Nat.sub_self
def fC:=@Int.toNat_natCast
def fD:=@Nat.pow_succ
def fE:=@Int.natAbs_mul
def fH:=@Nat.mul_zero
def fI:=@Nat.add_sub_cancel_left
def fJ:=@List.flatMap_cons
def fK:=@List.ext_getElem?
def fL:=@Nat.div_lt_iff_lt_mul
def fM:=@List.mem_replicate
def fN:=@List.getElem?_drop
def fO:=@Nat.mul_le_mul
def fR:=@List.mem_of_mem_drop
def fS:=@cond_false
def fT:=@Or.inl
def fW:=@List.getElem?_replicate
def fZ:=@Prod.mk.injEq
def gi:=@Int.natCast_mul
def gF:=@Go.RowKit.Below.heap_setCell
def gG:=@Array.getElem?_setIfInBounds
def gH:=@Ne.symm
def gL:=@Nat.mul_pos
def gM:=@List.getElem?_range
def gN:=@Nat.two_pow_pos
def gO:=@cond_true
def gP:=@Nat.le_of_not_lt
def gQ:=@Classical.axiomOfChoice
def gS:=@Nat.lt_trichotomy
def gT:=@Nat.add_assoc
def gU:=@Nat.pow_pos
def gV:=@Nat.succ_mul
def gW:=@Nat.add_sub_cancel
def ij:=@List.all_eq_true
def ik:=@List.toList_toArray
def io:=@List.length_singleton
def it:=@Nat.div_mul_cancel
def iu:=@List.mem_append_left
def ix:=@List.length_drop
def iG:=@Array.getElem?_eq_getElem
def iJ:=@Nat.pow_le_pow_left
def iO:=@Rat.mkRat_self
def iP:=@List.drop_zero
def iS:=@Nat.div_add_mod
def iT:=@List.map_set
def iU:=@List.length_nil
def iV:=@List.cons.injEq
def iW:=@Int.natCast_pow
def ji:=@or_false
def jk:=@bne_iff_ne
def jl:=@Option.some.injEq
def jm:=@List.length_range
def ju:=@List.getD_cons_succ
def jw:=@List.flatMap_append
def jz:=@Go.heap_alloc_new
def jA:=@Rat.num_eq_zero
def jB:=@Nat.add_mul
def jE:=@and_true
def jF:=@List.length_replicate
def jG:=@Nat.div_eq_of_lt
def jJ:=@Array.getElem?_setIfInBounds_self_of_lt
def jM:=@Go.ready_mono
def jU:=@List.take_add_one
def jV:=@List.length_eq_zero_iff
def jX:=@Int.eq_ofNat_of_zero_le
def j4:=@List.replicate_succ
def j5:=@List.getD_cons_zero
def j6:=@Go.DataW.trod_string
def kG:=@List.map_map
def kH:=@Nat.mod_eq_of_lt
def kI:=@List.getElem_mem
def kM:=@Go.rounds_succ
def kN:=@Int.tmod_eq_emod_of_nonneg
def kO:=@Array.getElem?_eq_some_iff
def lu:=@Option.map_some
def lz:=@of_decide_eq_true
def lE:=@Rat.div_def
def lF:=@Nat.mul_left_comm
def lG:=@Nat.gcd_dvd_right
def lH:=@List.size_toArray
def lI:=@List.append_assoc
def lO:=@List.mem_of_mem_eraseIdx
def lP:=@Array.setIfInBounds_comm
def l8:=@Go.Region.noSelect_spec
def l9:=@Array.getElem?_setIfInBounds_ne
def me:=@Go.info_parts
def mg:=@List.map_congr_left
def mo:=@decide_eq_false_iff_not
def mp:=@List.mem_flatMap
def mr:=@Bool.and_eq_true
def mC:=@Go.mem_ready
def mK:=@beq_iff_eq
def mR:=@Nat.div_le_self
def mS:=@List.mem_filter
def mU:=@List.append_nil
def mV:=@Int.natCast_add
def nk:=@decide_eq_true_eq
def nl:=@Nat.mul_lt_mul_of_pos_right
def no:=@Nat.le_succ_of_le
def np:=@Nat.coprime_div_gcd_div_gcd
def nv:=@List.getElem?_mapIdx
def nw:=@Int.tdiv_eq_ediv_of_nonneg
def nI:=@Nat.ne_of_gt
def nJ:=@Nat.lt_succ_self
def nK:=@Nat.gcd_dvd_left
def nS:=@Go.run_underlying
def nU:=@List.take_succ_cons
def nV:=@List.getElem_of_mem
def nW:=@List.drop_succ_cons
def om:=@Nat.mul_add_div
def oD:=@Rat.sub_eq_add_neg
def oE:=@Nat.gcd_zero_right
def oF:=@Array.ext_getElem?
def oS:=@Rat.neg_num
def oU:=@Go.World.ownsRow_made
def oV:=@Nat.le_of_lt_succ
def oW:=@Nat.gcd_comm
def pH:=@Go.World.ownsRow_nil
def pI:=@Go.DataW.trod_struct
def pL:=@Or.inr
def pM:=@Option.getD_some
def pN:=@Nat.mul_lt_mul''
def pO:=@Int.natCast_ediv
def pT:=@List.sum_cons
def pZ:=@Nat.pow_lt_pow_right
def qa:=@Nat.one_mul
def qd:=@List.length_eraseIdx
def qf:=@List.contains_eq_mem
def qg:=@Array.size_replicate
def qp:=@Go.Region.free_spec
def qz:=@Rat.natCast_inj
def qA:=@Nat.not_lt_zero
def qB:=@Nat.mul_add_mod
def qI:=@Go.toList_madeCells_one
def qJ:=@Go.run_make
def qK:=@Rat.intCast_natCast
def qL:=@Array.length_toList
def qO:=@Rat.add_zero
def qP:=@Nat.zero_mul
def qX:=@Go.run_loadVar_row
def qY:=@Go.Value.agg.injEq
def rj:=@Nat.one_le_two_pow
def rm:=@Nat.div_dvd_of_dvd
def rn:=@List.take_zero
def rz:=@Bool.bne_false
def rA:=@Array.toList_setIfInBounds
def rB:=@Array.mk.injEq
def rJ:=@Go.wpOp_mono
def rK:=@Go.MapKept.run_getObj_map
def rT:=@Go.wp_loop_rounds
def rU:=@Rat.neg_den
def rV:=@Go.DataW.trod_int
def rW:=@Bool.not_eq_true'
def sh:=@Rat.num_mkRat
def si:=@Rat.den_mkRat
def sj:=@Nat.pow_lt_pow_iff_right
def sk:=@Nat.lt_irrefl
def sn:=@List.eq_of_mem_replicate
def sK:=@Nat.gcd_le_right
def sL:=@List.nodup_range
def sM:=@List.mem_reverse
def tu:=@Go.Addr.mk.injEq
def tN:=@if_true
def tP:=@Rat.zero_mul
def tR:=@Nat.add_comm
def tT:=@Array.ext'
def uj:=@UInt8.toNat_inj
def uo:=@Rat.mul_eq_zero
def up:=@Go.Lit.string.injEq
def ur:=@List.range_succ
def ux:=@List.take_append_drop
def uy:=@List.getElem?_zipWith
def uz:=@Go.RowKit.Below.mono
def uA:=@Array.mem_of_getElem?
def uW:=@true_and
def uX:=@Go.World.var?_cell
def uY:=@Nat.pow_mul
def uZ:=@List.set_append_left
def u5:=@List.mem_iff_getElem
def u6:=@Int.natAbs_neg
def u7:=@Go.DataW.lit.injEq
def u9:=@Go.DataW.agg.injEq
def vR:=@bne_eq_false_iff_eq
def vS:=@Rat.mkRat_mul_right
def wN:=@Go.size_madeCells
def wP:=@Go.setRow_heap
def wQ:=@Go.growslice_fits
def wR:=@Rat.mul_assoc
def xm:=@UInt8.toNat_ofNat'
def xn:=@Rat.mul_inv_cancel
def xo:=@Bool.false_ne_true
def yH:=@Go.wp_region_any
def yI:=@Nat.pow_zero
def yJ:=@List.take_succ_eq_append_getElem
def yK:=@List.reverse_cons
def yL:=@List.map_nil
def yM:=@List.getElem?_set
def zH:=@List.takeWhile_append_dropWhile
def Bf:=@decide_eq_decide
def Bg:=@Rat.divInt_ofNat
def Bh:=@Option.bind_some
def Bi:=@Nat.lt_of_not_le
def Bj:=@List.mem_eraseIdx_iff_getElem?
def Bk:=@List.ext_getElem
def Bn:=@List.any_eq_true
def Bo:=@Go.run_make_row'
def BR:=@Go.Value.slice.injEq
def BS:=@Go.Sem.run_bind
def BU:=@Go.Result.andThen_ok
def BV:=@Nat.div_pos
def BW:=@Nat.Coprime.coprime_dvd_right
def BX:=@Int.mul_pos
def Cv:=@Rat.intCast_neg
def Cw:=@Rat.intCast_mul
def Cz:=@Rat.intCast_inj
def CA:=@Nat.gcd_le_left
def CB:=@Nat.Coprime.coprime_dvd_left
def CC:=@Bool.or_eq_true
def De:=@Go.wpOp_step
def EB:=@if_false
def EC:=@Rat.zero_mkRat
def ED:=@Rat.mkRat_zero
def EE:=@List.length_eraseIdx_of_lt
def Fh:=@Go.run_append_room
def Fi:=@Go.run_append_grow
def Fj:=@Go.run_append_fits
def Fk:=@Go.World.size_drew
def Fl:=@Int.mul_neg_of_pos_of_neg
def Gi:=@List.drop_set
def Hq:=@Go.strOfNums_data
def Hr:=@Go.run_append_nil
def Hs:=@Nat.le_mul_of_pos_right
def JD:=@Rat.mul_zero
def JE:=@Nat.zero_mod
def JF:=@Nat.lt_trans
def JG:=@Nat.div_div_eq_div_mul
def JH:=@List.dropWhile_sublist
def JI:=@List.append_eq_nil_iff
def Me:=@Go.World.cell?_setCell_same
def Mf:=@Nat.Coprime.mul_right
def Mg:=@Go.Lit.int.injEq
def Mh:=@List.set_append_right
def Mi:=@List.mem_append_right
def Mj:=@List.contains_iff_mem
def Mk:=@ByteArray.data_append
def Ml:=@Array.getElem?_append
def Qy:=@Rat.mul_one
def Qz:=@Nat.mul_mod_mul_left
def QA:=@Nat.mod_one
def QB:=@Nat.div_one
def QC:=@Int.mul_neg
def Y0:=@Rat.mkRat_mul_mkRat
def Y3:=@List.length_reverse
def Y4:=@List.filter_sublist
def Y5:=@List.dropWhile_cons
def Za:=@Array.toList_append
abbrev AV:=Operand
abbrev AT:=TypeInfo
abbrev AS:=Array MapEntry
abbrev AR:=Nat->Nat
abbrev AQ:=Option Tmp
abbrev AP:=UInt8
abbrev AO:=Nat->Rat
abbrev AN:=List (Int × Int)
abbrev AM:=IntKind
abbrev AL:=List Rat
abbrev AK:=Int × Int
abbrev AJ:=List (Rat × Nat)
abbrev AH:=Nat->Bool
abbrev AG:=List (World->Prop)
abbrev AD:=List (String × DataW Unit)
abbrev AB:=World->Prop
abbrev Az:=World->World->Prop
abbrev Ay:=Value->Prop
abbrev Ax:=Value->World->Prop
abbrev Aw:=Nat × Rat × Rat
abbrev Av:=Nat->Value
abbrev Au:=Program
abbrev As:=Ending
abbrev Ar:=Act->World->Prop
abbrev Ao:=Array Bool
abbrev An:=List (Nat × Rat × Nat)
abbrev Al:=Nat × Nat × Rat × Rat
abbrev Ai:=List (Nat × Rat × Rat)
abbrev Ag:=Nat->Option Tmp
abbrev Af:=Array Oper
abbrev Ae:=Nat->Nat->Rat
abbrev Ac:=Value
abbrev Ab:=Exit->Act->World->Prop
abbrev Aa:=List (Nat × Nat × Rat × Rat)
abbrev Vz:=World
abbrev Vy:=List Nat
abbrev Vx:=Option Addr
abbrev Vw:=Array Value
abbrev Vv:=List Value
abbrev Vu:=List UInt8
abbrev Vt:=List ByteArray
abbrev Vs:=ByteArray
abbrev Vr:=TypeId
def oO(h:P:=by omega):P:=h
def kK(h:P:=by kernel_rfl):P:=h
def dD(h:P:=by decide):P:=h
def sS(h:P:=by simp):P:=h
def sO(h:P:=by simp;omega):P:=h
def sP(h:P:=by simp<;>omega):P:=h
def aL(h:P:=by simp only[List.nil_append,List.cons_append,List.length_append,List.length_cons,List.length_nil,Nat.reduceAdd]):P:=h
def wO(h:P:=by rw[World.size_alloc];omega):P:=h
def tO(h:P:=by rw[List.length_take];omega):P:=h
def iZ(h:P:=by exact fun _ _ _ h=>h):P:=h
def mI(h:P:=by simp[intOf];omega):P:=h
def mZ(h:P:=by unfold maxLen;omega):P:=h
def oB(a:Q)(h:Q->P:=by intro a;omega):P:=h a
def oC{R:Prop}(a:Q)(b:R)(h:Q->R->P:=by intro a b;omega):P:=h a b
def sU(a:Q)(h:Q->P:=by intro a;simpa using a):P:=h a
def sV(a:Q)(h:Q->P:=by intro a;simp at a;omega):P:=h a
def rO{u v:Nat}(a:u=v)(h:u=v->P:=by intro a;rw[a];omega):P:=h a
def sA{l:List α}{a:α}:l.toArray.setIfInBounds i a=(l.set i a).toArray:=sS
def sB{a b:α}{l:List α}:(a::l).set 0 b=b::l:=rfl
def sC{a b:α}{l:List α}:(a::l).set (n+1) b=a::l.set n b:=rfl
abbrev Bl(w w':Vz):=Below w.heap.size w w'
def mH{a:α}{l:List α}:a∈a::l:=.head _
def mT{a b:α}{l:List α}(h:a∈l):a∈b::l:=.tail _ h
def O(p:Prop):Prop:=p
def O.o(h:O p):p:=h
def Hi(h:p):O p:=h
def ce{w w':Vz}{o:Option Value}(h:Below B w w')(hb:b<B)(a:w.cell? ⟨b,i,none⟩=o):w'.cell? ⟨b,i,none⟩=o:=(h.cell (p:=⟨b,i,none⟩) hb).trans a
def nm(a:α):∃x,a=x:=⟨_,rfl⟩
def Ia{a b:Prop}(c:a)(d:b):O a∧O b:=⟨c,d⟩
def Ja{w w':Vz}{d e:Option Value}(h:Below B w w')(k:b<B)(f:w.cell? ⟨b,a,none⟩=d)(hb:w.cell? ⟨b,c,none⟩=e):w'.cell? ⟨b,a,none⟩=d∧w'.cell? ⟨b,c,none⟩=e:=⟨ce h k f,ce h k hb⟩
def Ib{a b c:Prop}(d:a)(e:b)(f:c):O a∧O b∧O c:=⟨d,e,f⟩
def Jb{w w':Vz}{e f g:Option Value}(h:Below B w w')(k:b<B)(i:w.cell? ⟨b,a,none⟩=e)(hb:w.cell? ⟨b,c,none⟩=f)(j:w.cell? ⟨b,d,none⟩=g):w'.cell? ⟨b,a,none⟩=e∧w'.cell? ⟨b,c,none⟩=f∧w'.cell? ⟨b,d,none⟩=g:=⟨ce h k i,ce h k hb,ce h k j⟩
def Ic{a b c d:Prop}(e:a)(f:b)(g:c)(h:d):O a∧O b∧O c∧O d:=⟨e,f,g,h⟩
def Jc{w w':Vz}{f g i:Option Value}(h:Below B w w')(k:b<B)(l:w.cell? ⟨b,a,none⟩=f)(hb:w.cell? ⟨b,c,none⟩=g)(m:w.cell? ⟨b,d,none⟩=i)(n:w.cell? ⟨b,e,none⟩=j):w'.cell? ⟨b,a,none⟩=f∧w'.cell? ⟨b,c,none⟩=g∧w'.cell? ⟨b,d,none⟩=i∧w'.cell? ⟨b,e,none⟩=j:=⟨ce h k l,ce h k hb,ce h k m,ce h k n⟩
def Id{a b c d e:Prop}(f:a)(g:b)(h:c)(i:d)(j:e):O a∧O b∧O c∧O d∧O e:=⟨f,g,h,i,j⟩
def Jd{w w':Vz}{g i l m:Option Value}(h:Below B w w')(k:b<B)(n:w.cell? ⟨b,a,none⟩=g)(hb:w.cell? ⟨b,c,none⟩=i)(o:w.cell? ⟨b,d,none⟩=j)(p:w.cell? ⟨b,e,none⟩=l)(q:w.cell? ⟨b,f,none⟩=m):w'.cell? ⟨b,a,none⟩=g∧w'.cell? ⟨b,c,none⟩=i∧w'.cell? ⟨b,d,none⟩=j∧w'.cell? ⟨b,e,none⟩=l∧w'.cell? ⟨b,f,none⟩=m:=⟨ce h k n,ce h k hb,ce h k o,ce h k p,ce h k q⟩
def Ie{a b c d e f:Prop}(g:a)(h:b)(i:c)(j:d)(k:e)(l:f):O a∧O b∧O c∧O d∧O e∧O f:=⟨g,h,i,j,k,l⟩
def Je{w w':Vz}{i l m n o:Option Value}(h:Below B w w')(k:b<B)(p:w.cell? ⟨b,a,none⟩=i)(hb:w.cell? ⟨b,c,none⟩=j)(q:w.cell? ⟨b,d,none⟩=l)(r:w.cell? ⟨b,e,none⟩=m)(s:w.cell? ⟨b,f,none⟩=n)(t:w.cell? ⟨b,g,none⟩=o):w'.cell? ⟨b,a,none⟩=i∧w'.cell? ⟨b,c,none⟩=j∧w'.cell? ⟨b,d,none⟩=l∧w'.cell? ⟨b,e,none⟩=m∧w'.cell? ⟨b,f,none⟩=n∧w'.cell? ⟨b,g,none⟩=o:=⟨ce h k p,ce h k hb,ce h k q,ce h k r,ce h k s,ce h k t⟩
def If{a b c d e f g:Prop}(h:a)(i:b)(j:c)(k:d)(l:e)(m:f)(n:g):O a∧O b∧O c∧O d∧O e∧O f∧O g:=⟨h,i,j,k,l,m,n⟩
def Jf{w w':Vz}{l m n o p q:Option Value}(h:Below B w w')(k:b<B)(r:w.cell? ⟨b,a,none⟩=j)(hb:w.cell? ⟨b,c,none⟩=l)(s:w.cell? ⟨b,d,none⟩=m)(t:w.cell? ⟨b,e,none⟩=n)(u:w.cell? ⟨b,f,none⟩=o)(v:w.cell? ⟨b,g,none⟩=p)(x:w.cell? ⟨b,i,none⟩=q):w'.cell? ⟨b,a,none⟩=j∧w'.cell? ⟨b,c,none⟩=l∧w'.cell? ⟨b,d,none⟩=m∧w'.cell? ⟨b,e,none⟩=n∧w'.cell? ⟨b,f,none⟩=o∧w'.cell? ⟨b,g,none⟩=p∧w'.cell? ⟨b,i,none⟩=q:=⟨ce h k r,ce h k hb,ce h k s,ce h k t,ce h k u,ce h k v,ce h k x⟩
def Ig{a b c d e f g:Prop}(i:a)(j:b)(k:c)(l:d)(m:e)(n:f)(o:g)(p:h):O a∧O b∧O c∧O d∧O e∧O f∧O g∧O h:=⟨i,j,k,l,m,n,o,p⟩
def Jg{w w':Vz}{j:Nat}{l m n o p q:Option Value}(h:Below B w w')(k:b<B)(t:w.cell? ⟨b,a,none⟩=l)(hb:w.cell? ⟨b,c,none⟩=m)(u:w.cell? ⟨b,d,none⟩=n)(v:w.cell? ⟨b,e,none⟩=o)(x:w.cell? ⟨b,f,none⟩=p)(y:w.cell? ⟨b,g,none⟩=q)(z:w.cell? ⟨b,i,none⟩=r)(A:w.cell? ⟨b,j,none⟩=s):w'.cell? ⟨b,a,none⟩=l∧w'.cell? ⟨b,c,none⟩=m∧w'.cell? ⟨b,d,none⟩=n∧w'.cell? ⟨b,e,none⟩=o∧w'.cell? ⟨b,f,none⟩=p∧w'.cell? ⟨b,g,none⟩=q∧w'.cell? ⟨b,i,none⟩=r∧w'.cell? ⟨b,j,none⟩=s:=⟨ce h k t,ce h k hb,ce h k u,ce h k v,ce h k x,ce h k y,ce h k z,ce h k A⟩
def Ih{a b c d e f g i:Prop}(j:a)(k:b)(l:c)(m:d)(n:e)(o:f)(p:g)(q:h)(r:i):O a∧O b∧O c∧O d∧O e∧O f∧O g∧O h∧O i:=⟨j,k,l,m,n,o,p,q,r⟩
def Jh{w w':Vz}{j l:Nat}{m n o p q t u:Option Value}(h:Below B w w')(k:b<B)(v:w.cell? ⟨b,a,none⟩=m)(hb:w.cell? ⟨b,c,none⟩=n)(x:w.cell? ⟨b,d,none⟩=o)(y:w.cell? ⟨b,e,none⟩=p)(z:w.cell? ⟨b,f,none⟩=q)(A:w.cell? ⟨b,g,none⟩=r)(C:w.cell? ⟨b,i,none⟩=s)(D:w.cell? ⟨b,j,none⟩=t)(E:w.cell? ⟨b,l,none⟩=u):w'.cell? ⟨b,a,none⟩=m∧w'.cell? ⟨b,c,none⟩=n∧w'.cell? ⟨b,d,none⟩=o∧w'.cell? ⟨b,e,none⟩=p∧w'.cell? ⟨b,f,none⟩=q∧w'.cell? ⟨b,g,none⟩=r∧w'.cell? ⟨b,i,none⟩=s∧w'.cell? ⟨b,j,none⟩=t∧w'.cell? ⟨b,l,none⟩=u:=⟨ce h k v,ce h k hb,ce h k x,ce h k y,ce h k z,ce h k A,ce h k C,ce h k D,ce h k E⟩
def gE{l:List α}(h:i<l.length):l[i]?=some l[i]:=List.getElem?_eq_getElem h
def mO{l:List α}{a:α}(h:l[i]?=some a):a∈l:=List.mem_of_getElem? h
def gZ{l:List α}{a:α}(h:l[i]?=some a):∃k:i<l.length,l[i]=a:=List.getElem?_eq_some_iff.1 h
def bC(h:¬p→False):p:=Classical.byContradiction h
def lZ:n≤n:=Nat.le_refl _
def bR{w:Vz}:Below B w w:=Below.refl _ _
def cM{P:Program}{f:FuncId}{a:Vw}{w:Vz}{Q R:Ending→World→Prop}(h:Calls P f a w Q)(k:∀e w',Q e w'→R e w'):Calls P f a w R:=h.mono k
structure Row (k:IntKind) (w:Vz) (a:Vx) (cap:Nat) (l:Vy):Prop where
 fit:l.length<=cap
 shape:(a=none/\cap=0)∨∃b off,a=some ⟨b,off,none⟩/\b<w.heap.size
 cell:∀i,i<l.length->∃b off,a=some ⟨b,off,none⟩/\b<w.heap.size/\w.cell? ⟨b,off+i,none⟩=some (.int k ((l.getD i 0:Nat):Int))
def Row.nil(k:IntKind)(w:Vz):Row k w none 0 []:=⟨sS,.inl ⟨rfl,rfl⟩,fun i a=>by simp at a⟩
def qS:=@Row.nil
def Row.below{w w':Vz}{a:Vx}{l:Vy}(h:Row k w a cap l)(hb:Below w.heap.size w w'):Row k w' a cap l:=by
 refine⟨h.fit,?_,fun i f=>?_⟩
 .
  rcases h.shape with d|⟨b,c,rfl,e⟩
  . exact .inl d
  . exact .inr ⟨b,c,rfl,by have:=hb.size;omega⟩
 . obtain⟨b,c,d,e,g⟩:=h.cell i f
   exact⟨b,c,d,by have:=hb.size;omega,ce hb e g⟩
def Row.take{w:Vz}{a:Vx}{l:Vy}(h:Row k w a cap l)(n:Nat)(j:n<=l.length):Row k w a cap (l.take n):=by refine⟨by rw[List.length_take];have:=h.fit;omega,h.shape,fun i d=>?_⟩;rw[List.length_take]at d;obtain⟨b,c,e,f,g⟩:=h.cell i oO;refine⟨b,c,e,f,?_⟩;rw[g,List.getD_eq_getElem?_getD,List.getD_eq_getElem?_getD,List.getElem?_take_of_lt oO]
def dA(k:IntKind)(l:Vy):Array Value:=(l.map (fun n:Nat=>Value.int k n)).toArray
def jf(k:IntKind)(t:Vr)(w:Vz)(g:Nat)(l:Vy):Prop:=w.heap[g]?=some (.cells (dA k l) t (0,0))
def jf.lt{t:Vr}{w:Vz}{l:Vy}(h:jf k t w g l):g<w.heap.size:=by apply bC;intro a;unfold jf at h;rw[Array.getElem?_eq_none oO]at h;cases h
def jf.cell{t:Vr}{w:Vz}{l:Vy}(h:jf k t w g l)(i:Nat)(a:i<l.length):w.cell? ⟨g,i,none⟩=some (.int k ((l.getD i 0:Nat):Int)):=by unfold jf at h;simp[World.cell?,h,dA,a]
def jf.free{t:Vr}{w:Vz}{l:Vy}(h:jf k t w g l)(i:Nat):w.frozen? ⟨g,i,none⟩=false:=by unfold jf at h;simp[World.frozen?,h]
def Vg(k:IntKind)(l:Vy)(i x:Nat):(dA k l).setIfInBounds i (.int k (x:Int))=dA k (l.set i x):=by unfold dA;apply Array.ext';simp[List.map_set]
def jf.set{t:Vr}{w:Vz}{l:Vy}(h:jf k t w g l)(i x:Nat):jf k t (w.setCell ⟨g,i,none⟩ (.int k (x:Int))) g (l.set i x):=by unfold jf at h ⊢;simp[World.setCell,Array.getElem?_modify,h,<-Vg]
def jf.other{t:Vr}{w:Vz}{l:Vy}(h:jf k t w g l)(b:g≠a)(i:Nat)(v:Value):jf k t (w.setCell ⟨a,i,none⟩ v) g l:=by unfold jf at h ⊢;rw[Below.heap_setCell _ _ _ _ b];exact h
def jf.drew{t:Vr}{w:Vz}{l:Vy}(h:jf k t w g l):jf k t w.drew g l:=h
def jf.alloc{t:Vr}{w:Vz}{l:Vy}(h:jf k t w g l)(o:Obj):jf k t (w.alloc o) g l:=by have:=h.lt;unfold jf at h ⊢;rw[Below.heap_alloc _ _ _ this];exact h
def jf.below{t:Vr}{w w':Vz}{l:Vy}(h:jf k t w g l)(hb:Below B w w')(a:g<B):jf k t w' g l:=by unfold jf at h ⊢;rw[hb.block g a];exact h
def jf.new(k:IntKind)(t:Vr)(w:Vz)(l:Vy):jf k t (w.alloc (.cells (dA k l) t)) w.heap.size l:=by
 show (w.heap.push _)[w.heap.size]?=_
 simp
def mn:=@jf.new
def jf.row{t:Vr}{w:Vz}{l:Vy}(h:jf k t w g l)(n:Nat)(b:n<=l.length)(cap:Nat)(c:n<=cap):Row k w (some ⟨g,0,none⟩) cap (l.take n):=by have hl:=h.lt;refine⟨by rw[List.length_take];omega,.inr ⟨g,0,rfl,hl⟩,fun i a=>⟨g,0,rfl,hl,?_⟩⟩;rw[List.length_take]at a;have:=h.cell i oO;rw[Nat.zero_add,this,List.getD_eq_getElem?_getD,List.getD_eq_getElem?_getD,List.getElem?_take_of_lt oO]
def xw(n:Int):IntKind.u64.wrap n=n % 18446744073709551616:=by simp[IntKind.wrap,IntKind.signed,IntKind.bits]
def zeros(n:Nat):List Nat:=List.replicate n 0
def uC(n:Nat):(zeros n).length=n:=by unfold zeros;simp
def wZ(B n:Nat)(hB:0<B):Small B (zeros n):=Small.replicate B n hB
def EX(n j:Nat):(zeros n).getD j 0=0:=by
 unfold zeros;rw[List.getD_eq_getElem?_getD,List.getElem?_replicate]
 split<;>rfl
def Ip(B n:Nat):val B (zeros n)=0:=Yz B n
def Io(k:IntKind)(n:Nat):madeCells #[Value.int k 0] n=dA k (zeros n):=by
 unfold madeCells dA zeros;apply Array.ext
 . simp
 . intro i a b
   simp[Nat.mod_one]
def Tryz.A6:(prog.info? 213).map (fun i=>(i.zero,i.size,i.bytes))=some (some (.int .u32 0),1,4):=kK
def Tryz.uU:(prog.info? 172).map (fun i=>(i.zero,i.size,i.bytes))=some (some (.int .u64 0),1,8):=kK
def L8:=@Tryz.uU
def CO(L:Int)(n:Nat)(a:L=n)(b:n<=2199023255552)(w:Vz):
 (Instr.makeSlice 112 (.int .i64 L) (.int .i64 L)).run prog w=.ok (.slice (some ⟨w.heap.size,0,none⟩) n n) (w.alloc (.cells (dA .u32 (zeros n)) 213)):=by
 subst a;rw[<-Io];exact Go.run_make_row' 112 213 (.int .u32 0) 4 underlying112 Tryz.A6 rfl .i64 .i64 n oO oO w
end Go.Proofs.YtfgclhpgdanmfaaGreatDoor
