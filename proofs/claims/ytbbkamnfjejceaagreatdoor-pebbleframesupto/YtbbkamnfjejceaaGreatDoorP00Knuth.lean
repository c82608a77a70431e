/- Plain mathematics: long division digit by digit (Knuth's algorithm D): how good the guess is; what a step leaves. -/
import Derived.Test.YtbbkamnfjejceaaGreatDoorChecked
import Derived.WalkKit
import Derived.Below
import Derived.OwnWalk
import Derived.Outline
import Derived.Deep.OwnRows
import Derived.RegionTactic
import Derived.ChangeAlike
import Derived.Laws.AppendOwnNone
import Derived.Laws.BitsAllLaws
namespace Go.Proofs.YtbbkamnfjejceaaGreatDoor
set_option linter.unusedVariables false
def val(B:Nat):List Nat→Nat
 | []=>0
 |d :: l=>d+B*val B l
theorem Qdg(B:Nat):val B []=0:=rfl
theorem Qb9(B d:Nat)(l:List Nat):val B (d :: l)=d+B*val B l:=rfl
theorem Qfc(B:Nat)(l m:List Nat):val B (l++m)=val B l+B ^ l.length*val B m:=by
 induction l with
 |nil=>simp[val]
 |cons d l ih=>
  simp only[List.cons_append,val,ih,List.length_cons,Nat.pow_succ,Nat.mul_add,Nat.add_assoc];rw[Nat.mul_comm (B ^ l.length) B,Nat.mul_assoc]
theorem Qak(B:Nat)(l:List Nat)(d:Nat):val B (l++ [d])=val B l+B ^ l.length*d:=by
 rw[Qfc];simp[val]
def Small(B:Nat)(l:List Nat):Prop:=∀d,d∈ l→d<B
theorem Small.nil(B:Nat):Small B []:=fun d h=>by cases h
theorem Small.append{B:Nat}{l m:List Nat}(h:Small B l)(k:Small B m):Small B (l++m):=fun d hd=>by
 rcases List.mem_append.1 hd with h1|h1
 · exact h d h1
 · exact k d h1
theorem Small.take{B:Nat}{l:List Nat}(h:Small B l)(n:Nat):Small B (l.take n):=fun d hd=>h d (List.mem_of_mem_take hd)
theorem Small.drop{B:Nat}{l:List Nat}(h:Small B l)(n:Nat):Small B (l.drop n):=fun d hd=>h d (List.mem_of_mem_drop hd)
theorem Small.set{B:Nat}{l:List Nat}(h:Small B l)(i:Nat){d:Nat}(k:d<B):Small B (l.set i d):=fun e he=>by
 rcases List.mem_or_eq_of_mem_set he with h1|h1
 · exact h e h1
 · subst h1;exact k
theorem Small.getD{B:Nat}{l:List Nat}(h:Small B l)(hB:0<B)(i:Nat):l.getD i 0<B:=by
 by_cases hi:i<l.length
 · rw[List.getD_eq_getElem?_getD,List.getElem?_eq_getElem hi]
   exact h _ (List.getElem_mem hi)
 · rw[List.getD_eq_getElem?_getD,List.getElem?_eq_none (by omega)]
   exact hB
theorem Small.replicate(B n:Nat)(hB:0<B):Small B (List.replicate n 0):=fun d hd=>by
 have:=List.eq_of_mem_replicate hd;omega
theorem Qae{B:Nat}{l:List Nat}(hB:0<B)(h:Small B l):val B l<B ^ l.length:=by
 induction l with
 |nil=>simp[val]
 |cons d l ih=>
  have h1:=ih (fun e he=>h e (List.mem_cons_of_mem _ he));have h2:=h d (List.mem_cons_self ..);simp only[val,List.length_cons,Nat.pow_succ];rw[Nat.mul_comm (B ^ l.length) B];have h3:B*(val B l+1)≤B*B ^ l.length:=Nat.mul_le_mul_left B h1;rw[Nat.mul_add] at h3;omega
theorem Qjm(B n:Nat):val B (List.replicate n 0)=0:=by
 induction n with
 |zero=>rfl
 |succ n ih=>simp[List.replicate_succ,val,ih]
theorem Qbn(B:Nat)(l:List Nat)(k:Nat)(h:k<l.length):val B (l.take (k+1))=val B (l.take k)+B ^ k*l.getD k 0:=by
 rw[List.take_succ_eq_append_getElem h,Qak,List.length_take,Nat.min_eq_left (by omega),List.getD_eq_getElem?_getD,List.getElem?_eq_getElem h];rfl
theorem Qbb(B:Nat)(l:List Nat)(k:Nat)(h:l.length≤k):val B (l.take k)=val B l:=by
 rw[List.take_of_length_le h]
theorem Qag(B:Nat)(l:List Nat)(k:Nat):val B (l.take (k+1))=val B (l.take k)+B ^ k*l.getD k 0:=by
 by_cases h:k<l.length
 · exact Qbn B l k h
 · rw[Qbb _ _ _ (by omega),Qbb _ _ _ (by omega),List.getD_eq_getElem?_getD,List.getElem?_eq_none (by omega)]
   simp
theorem Qah(B:Nat)(l:List Nat)(k:Nat)(h:k≤l.length):val B l=val B (l.take k)+B ^ k*val B (l.drop k):=by
 conv=>lhs;rw[←List.take_append_drop k l]
 rw[Qfc,List.length_take,Nat.min_eq_left h]
theorem Qdh(l:List Nat)(k:Nat)(h:k<l.length):l.drop k=l.getD k 0 :: l.drop (k+1):=by
 rw[List.drop_eq_getElem_cons h,List.getD_eq_getElem?_getD,List.getElem?_eq_getElem h];rfl
theorem Qai(B:Nat)(l:List Nat)(k:Nat)(h:k<l.length):val B (l.drop k)=l.getD k 0+B*val B (l.drop (k+1)):=by
 rw[Qdh l k h,Qb9]
theorem take_set(l:List Nat)(k d:Nat)(h:k<l.length):(l.set k d).take (k+1)=l.take k++ [d]:=by
 rw[List.take_succ_eq_append_getElem (by simpa using h),List.take_set_of_le (Nat.le_refl _)];simp
def Trim(l:List Nat):Prop:=l= []∨l.getD (l.length - 1) 0≠0
theorem Trim.pow_le{B:Nat}{l:List Nat}(h:Trim l)(hl:0<l.length):B ^ (l.length - 1)≤val B l:=by
 rcases h with rfl|h
 · simp at hl
 ·
  have e:=Qah B l (l.length - 1) (by omega);have e2:=Qai B l (l.length - 1) (by omega);rw[e,e2];have h1:1≤l.getD (l.length - 1) 0+B*val B (l.drop (l.length - 1+1)):=by omega
  have:=Nat.mul_le_mul_left (B ^ (l.length - 1)) h1;omega
theorem Qjn{B:Nat}{l:List Nat}(hB:0<B)(h:Trim l):val B l=0↔l= []:=by
 constructor
 ·
  intro e;by_cases hl:0<l.length
  ·
   have h1:=h.pow_le (B:=B) hl;have h2:0<B ^ (l.length - 1):=Nat.pow_pos hB;omega
  · exact List.eq_nil_of_length_eq_zero (by omega)
 · rintro rfl;rfl
theorem Qfd{B:Nat}(hB:0<B){m n:Nat}(h:m≤n):B ^ m≤B ^ n:=Nat.pow_le_pow_right hB h
theorem Qa4{B:Nat}{l m:List Nat}(hB:0<B)(hl:Small B l)(hm:Trim m)(h:l.length<m.length):val B l<val B m:=by
 have h1:=Qae hB hl;have h2:=hm.pow_le (B:=B) (by omega);have h3:=Qfd hB (show l.length≤m.length - 1 by omega);omega
theorem Qfe{B:Nat}{d:Nat}{x:Nat}(h:d<B):(d+B*x) % B=d:=by
 rw[Nat.add_mul_mod_self_left,Nat.mod_eq_of_lt h]
theorem Qff{B:Nat}{d:Nat}{x:Nat}(h:d<B):(d+B*x) / B=x:=by
 rw[Nat.add_mul_div_left _ _ (by omega),Nat.div_eq_of_lt h,Nat.zero_add]
theorem Qfg{B:Nat}:∀{l m:List Nat},Small B l→Small B m→l.length=m.length→val B l=val B m→l=m
 | [],[],_,_,_,_=>rfl
 | [],_ :: _,_,_,h,_=>by simp at h
 |_ :: _,[],_,_,h,_=>by simp at h
 |d :: l,e :: m,h1,h2,h3,h4=>by
  have hd:=h1 d (List.mem_cons_self ..);have he:=h2 e (List.mem_cons_self ..);simp only[val] at h4;have e1:d=e:=by rw[←Qfe (x:=val B l) hd,←Qfe (x:=val B m) he,h4]
  have e2:val B l=val B m:=by rw[←Qff (x:=val B l) hd,←Qff (x:=val B m) he,h4]
  rw[e1,Qfg (fun x hx=>h1 x (List.mem_cons_of_mem _ hx)) (fun x hx=>h2 x (List.mem_cons_of_mem _ hx)) (by simpa using h3) e2]
structure Num (B:Nat) (l:List Nat) (n:Nat):Prop where
 small:Small B l
 trim:Trim l
 eq:val B l=n
theorem Num.inj{B:Nat}{l m:List Nat}{n:Nat}(hB:0<B)(h:Num B l n)(k:Num B m n):l=m:=by
 have e:l.length=m.length:=by
  rcases Nat.lt_trichotomy l.length m.length with h1|h1|h1
  · have:=Qa4 hB h.small k.trim h1;have:=h.eq;have:=k.eq;omega
  · exact h1
  · have:=Qa4 hB k.small h.trim h1;have:=h.eq;have:=k.eq;omega
 exact Qfg h.small k.small e (h.eq.trans k.eq.symm)
theorem Num.zero(B:Nat):Num B [] 0:=⟨Small.nil B,.inl rfl,rfl⟩
theorem Num.nil_iff{B:Nat}{l:List Nat}{n:Nat}(hB:0<B)(h:Num B l n):n=0↔l= []:=by
 rw[←h.eq];exact Qjn hB h.trim
theorem Num.len_zero{B:Nat}{l:List Nat}{n:Nat}(hB:0<B)(h:Num B l n):n=0↔l.length=0:=by
 rw[h.nil_iff hB];exact List.length_eq_zero_iff.symm
theorem Num.length_le_of_lt{B:Nat}{l:List Nat}{n k:Nat}(hB:0<B)(h:Num B l n)(hn:n<B ^ k):l.length≤k:=by
 apply Classical.byContradiction;intro hc;have h1:=h.trim.pow_le (B:=B) (by omega);have h2:=Qfd hB (show k≤l.length - 1 by omega);rw[h.eq] at h1;omega
def nb(n:Nat):Nat:=if n=0 then 0 else n.log2+1
theorem Qjo(n:Nat):n<2 ^ nb n:=by
 unfold nb
 split
 · omega
 · exact Nat.lt_log2_self
theorem nb_le{n k:Nat}(h:n<2 ^ k):nb n≤k:=by
 unfold nb
 split
 · omega
 · rename_i h0
   exact(Nat.log2_lt h0).2 h
theorem Qfh{n:Nat}(h:0<n):1≤nb n:=by unfold nb;rw[if_neg (by omega)];omega
theorem Qjp{n k:Nat}(h:k<nb n):2 ^ k≤n:=by
 apply Classical.byContradiction;intro hc;have:=nb_le (n:=n) (k:=k) (by omega);omega
def cmp3(x y:Nat):Int:=if x<y then -1 else if x=y then 0 else 1
theorem Qdi{x y:Nat}(h:x<y):cmp3 x y= -1:=by unfold cmp3;rw[if_pos h]
theorem Qjq{x y:Nat}(h:x=y):cmp3 x y=0:=by unfold cmp3;rw[if_neg (by omega),if_pos h]
theorem Qfi{x y:Nat}(h:y<x):cmp3 x y=1:=by unfold cmp3;rw[if_neg (by omega),if_neg (by omega)]
theorem Qbc(x y:Nat):cmp3 x y<0↔x<y:=by
 unfold cmp3
 split
 · simp;assumption
 · split<;>simp<;>omega
theorem Qfj{B:Nat}(hB:0<B){l m:List Nat}(hl:Small B l)(j:Nat)(h1:j<l.length)(h2:j<m.length)(hd:l.drop (j+1)=m.drop (j+1))(h:l.getD j 0<m.getD j 0):val B l<val B m:=by
 rw[Qah B l j (by omega),Qah B m j (by omega),Qai B l j h1,Qai B m j h2,hd];have h3:=Qae hB (hl.take j);rw[List.length_take,Nat.min_eq_left (by omega)] at h3;have h4:B ^ j*(l.getD j 0+B*val B (m.drop (j+1))+1)≤B ^ j*(m.getD j 0+B*val B (m.drop (j+1))):=Nat.mul_le_mul_left _ (by omega);rw[Nat.mul_add _ _ 1] at h4;omega
theorem Qjr{l m:List Nat}{j:Nat}(h1:j<l.length)(h2:j<m.length)(hd:l.drop (j+1)=m.drop (j+1))(h:l.getD j 0=m.getD j 0):l.drop j=m.drop j:=by
 rw[Qdh l j h1,Qdh m j h2,hd,h]
theorem Qfk(l:List Nat)(k:Nat)(h:l.length≤k):l.getD k 0=0:=by
 rw[List.getD_eq_getElem?_getD,List.getElem?_eq_none h];rfl
theorem Qjs(B:Nat)(rs:List Nat)(n c:Nat)(h:rs.length=n+1):val B (rs.set n c)=val B (rs.take n)+B ^ n*c:=by
 rw[←Qbb B (rs.set n c) (n+1) (by simp;omega),take_set _ _ _ (by omega),Qak,List.length_take,Nat.min_eq_left (by omega)]
theorem Qjt(B k c d e r c':Nat)(rs l m:List Nat)(hk:k<rs.length)(hd:l.getD k 0=d)(he:m.getD k 0=e)(hr:r+c+e=d+B*c')
 (h:val B (rs.take k)+val B (m.take k)=val B (l.take k)+B ^ k*c):
 val B ((rs.set k r).take (k+1))+val B (m.take (k+1))=val B (l.take (k+1))+B ^ (k+1)*c':=by
 rw[take_set _ _ _ hk,Qak,List.length_take,Nat.min_eq_left (by omega),Qag,Qag,hd,he,Nat.pow_succ];have e2:B ^ k*(r+c+e)=B ^ k*(d+B*c'):=by rw[hr]
 rw[Nat.mul_add,Nat.mul_add,Nat.mul_add,←Nat.mul_assoc] at e2;omega
theorem Qbd(B:Nat)(l:List Nat)(k d:Nat)(h:k<l.length):val B (l.set k d)+B ^ k*l.getD k 0=val B l+B ^ k*d:=by
 have e1:=Qah B (l.set k d) (k+1) (by simp;omega);have e2:=Qah B l (k+1) (by omega);rw[take_set _ _ _ h,Qak,List.length_take,Nat.min_eq_left (by omega),List.drop_set_of_lt (by omega)] at e1;rw[Qbn B l k h] at e2;omega
theorem Qju(l:List Nat)(q k:Nat)(h:k<q):(l.take q).getD k 0=l.getD k 0:=by
 rw[List.getD_eq_getElem?_getD,List.getD_eq_getElem?_getD,List.getElem?_take_of_lt h]
theorem Qca(l:List Nat)(k d:Nat)(h:k<l.length):(l.set k d).getD k 0=d:=by
 rw[List.getD_eq_getElem?_getD,List.getElem?_set_self h];rfl
theorem getD_set_ne(l:List Nat)(k d j:Nat)(h:k≠j):(l.set k d).getD j 0=l.getD j 0:=by
 rw[List.getD_eq_getElem?_getD,List.getD_eq_getElem?_getD,List.getElem?_set_ne h]
open Go.RowKit
structure Row (k:IntKind) (w:World) (a:Option Addr) (cap:Nat) (l:List Nat):Prop where
 fit:l.length≤cap
 shape:(a=none∧cap=0)∨∃b off,a=some ⟨b,off,none⟩∧b<w.heap.size
 cell:∀i,i<l.length→∃b off,a=some ⟨b,off,none⟩∧b<w.heap.size∧w.cell? ⟨b,off+i,none⟩=some (.int k ((l.getD i 0:Nat):Int))
theorem Row.nil(k:IntKind)(w:World):Row k w none 0 []:=⟨by simp,.inl ⟨rfl,rfl⟩,fun i hi=>by simp at hi⟩
theorem Row.below{k:IntKind}{w w':World}{a:Option Addr}{cap:Nat}{l:List Nat}(h:Row k w a cap l)(hb:Below w.heap.size w w'):Row k w' a cap l:=by
 refine⟨h.fit,?_,fun i hi=>?_⟩
 ·
  rcases h.shape with h1|⟨b,off,rfl,h2⟩
  · exact .inl h1
  · exact .inr ⟨b,off,rfl,by have:=hb.size;omega⟩
 · obtain⟨b,off,h1,h2,h3⟩:=h.cell i hi
   exact⟨b,off,h1,by have:=hb.size;omega,(hb.cell (p:=⟨b,off+i,none⟩) h2).trans h3⟩
theorem Row.take{k:IntKind}{w:World}{a:Option Addr}{cap:Nat}{l:List Nat}(h:Row k w a cap l)(n:Nat)(hn:n≤l.length):Row k w a cap (l.take n):=by
 refine⟨by rw[List.length_take];have:=h.fit;omega,h.shape,fun i hi=>?_⟩;rw[List.length_take] at hi;obtain⟨b,off,h1,h2,h3⟩:=h.cell i (by omega);refine⟨b,off,h1,h2,?_⟩;rw[h3,List.getD_eq_getElem?_getD,List.getD_eq_getElem?_getD,List.getElem?_take_of_lt (by omega)]
def wordCells(k:IntKind)(l:List Nat):Array Value:=(l.map (fun n:Nat=>Value.int k n)).toArray
def Blk(k:IntKind)(t:TypeId)(w:World)(g:Nat)(l:List Nat):Prop:=w.heap[g]?=some (.cells (wordCells k l) t (0,0))
theorem Blk.lt{k:IntKind}{t:TypeId}{w:World}{g:Nat}{l:List Nat}(h:Blk k t w g l):g<w.heap.size:=by
 apply Classical.byContradiction;intro hc;unfold Blk at h;rw[Array.getElem?_eq_none (by omega)] at h;cases h
theorem Blk.cell{k:IntKind}{t:TypeId}{w:World}{g:Nat}{l:List Nat}(h:Blk k t w g l)(i:Nat)(hi:i<l.length):w.cell? ⟨g,i,none⟩=some (.int k ((l.getD i 0:Nat):Int)):=by
 unfold Blk at h;simp[World.cell?,h,wordCells,hi]
theorem Blk.free{k:IntKind}{t:TypeId}{w:World}{g:Nat}{l:List Nat}(h:Blk k t w g l)(i:Nat):w.frozen? ⟨g,i,none⟩=false:=by
 unfold Blk at h;simp[World.frozen?,h]
theorem Qky(k:IntKind)(l:List Nat)(i x:Nat):(wordCells k l).setIfInBounds i (.int k (x:Int))=wordCells k (l.set i x):=by
 unfold wordCells;apply Array.ext';simp[List.map_set]
theorem Blk.set{k:IntKind}{t:TypeId}{w:World}{g:Nat}{l:List Nat}(h:Blk k t w g l)(i x:Nat):Blk k t (w.setCell ⟨g,i,none⟩ (.int k (x:Int))) g (l.set i x):=by
 unfold Blk at h ⊢;simp[World.setCell,Array.getElem?_modify,h,←Qky]
theorem Blk.other{k:IntKind}{t:TypeId}{w:World}{g g':Nat}{l:List Nat}(h:Blk k t w g l)(hg:g≠g')(i:Nat)(v:Value):Blk k t (w.setCell ⟨g',i,none⟩ v) g l:=by
 unfold Blk at h ⊢;rw[Below.heap_setCell _ _ _ _ hg];exact h
theorem Blk.drew{k:IntKind}{t:TypeId}{w:World}{g:Nat}{l:List Nat}(h:Blk k t w g l):Blk k t w.drew g l:=h
theorem Blk.alloc{k:IntKind}{t:TypeId}{w:World}{g:Nat}{l:List Nat}(h:Blk k t w g l)(o:Obj):Blk k t (w.alloc o) g l:=by
 have:=h.lt;unfold Blk at h ⊢;rw[Below.heap_alloc _ _ _ this];exact h
theorem Blk.below{k:IntKind}{t:TypeId}{w w':World}{g B:Nat}{l:List Nat}(h:Blk k t w g l)(hb:Below B w w')(hg:g<B):Blk k t w' g l:=by
 unfold Blk at h ⊢;rw[hb.block g hg];exact h
theorem Blk.new(k:IntKind)(t:TypeId)(w:World)(l:List Nat):Blk k t (w.alloc (.cells (wordCells k l) t)) w.heap.size l:=by
 show (w.heap.push _)[w.heap.size]?=_
 simp
theorem Blk.row{k:IntKind}{t:TypeId}{w:World}{g:Nat}{l:List Nat}(h:Blk k t w g l)(n:Nat)(hn:n≤l.length)(cap:Nat)(hc:n≤cap):Row k w (some ⟨g,0,none⟩) cap (l.take n):=by
 have hl:=h.lt;refine⟨by rw[List.length_take];omega,.inr ⟨g,0,rfl,hl⟩,fun i hi=>⟨g,0,rfl,hl,?_⟩⟩;rw[List.length_take] at hi;have:=h.cell i (by omega);rw[Nat.zero_add,this,List.getD_eq_getElem?_getD,List.getD_eq_getElem?_getD,List.getElem?_take_of_lt (by omega)]
theorem Qa1(n:Int):IntKind.u64.wrap n=n % 18446744073709551616:=by
 simp[IntKind.wrap,IntKind.signed,IntKind.bits]
def zeros(n:Nat):List Nat:=List.replicate n 0
theorem Qa8(n:Nat):(zeros n).length=n:=by unfold zeros;simp
theorem Qbh(B n:Nat)(hB:0<B):Small B (zeros n):=Small.replicate B n hB
theorem Qcl(n j:Nat):(zeros n).getD j 0=0:=by
 unfold zeros;rw[List.getD_eq_getElem?_getD,List.getElem?_replicate]
 split<;>rfl
theorem Qkz(B n:Nat):val B (zeros n)=0:=Qjm B n
theorem Qdq(k:IntKind)(n:Nat):madeCells #[Value.int k 0] n=wordCells k (zeros n):=by
 unfold madeCells wordCells zeros;apply Array.ext
 · simp
 · intro i h1 h2
   simp[Nat.mod_one]
theorem Tryz.info64:(Tryz.prog.info? 146).map (fun i=>(i.zero,i.size,i.bytes))=some (some (.int .u64 0),1,8):=by kernel_rfl
theorem Qar(b off j:Nat):(⟨b,off,none⟩:Addr).add j=⟨b,off+j,none⟩:=by
 unfold Addr.add
 split
 · rename_i h;subst h;rfl
 · rfl
end Go.Proofs.YtbbkamnfjejceaaGreatDoor
namespace Go.Proofs.YtbbkamnfjejceaaGreatDoor
set_option linter.unusedVariables false
theorem or64(x y:Int)(a b i:Nat)(hx:x=((2 ^ i*a:Nat):Int))(hy:y=(b:Int))(hb:b<2 ^ i)(hs:2 ^ i*a+b<18446744073709551616):bits .or .u64 x y=((2 ^ i*a+b:Nat):Int):=by
 subst hx;subst hy;rw[u64_or_nat _ _ (by omega) (by omega),Nat.two_pow_add_eq_or_of_lt hb]
theorem or64'(x y:Int)(a b i:Nat)(hx:x=((2 ^ i*a:Nat):Int))(hy:y=(b:Int))(hb:b<2 ^ i)(hs:2 ^ i*a+b<18446744073709551616):bits .or .u64 y x=((2 ^ i*a+b:Nat):Int):=by
 subst hx;subst hy;rw[u64_or_nat _ _ (by omega) (by omega),Nat.or_comm,Nat.two_pow_add_eq_or_of_lt hb]
theorem Qdc(n:Nat)(h:n<18446744073709551616):IntKind.u64.wrap (n:Int)=(n:Int):=by
 simp[IntKind.wrap,IntKind.signed,IntKind.bits];omega
theorem Qkp(B P h u0 lw v1 v0 lv W V:Nat)(hP:0<P)(hB:0<B)(hW:W=h*(B*P)+u0*P+lw)(hV:V=v1*(B*P)+v0*P+lv)(hlw:lw<P)(hu0:u0<B)(hv1:0<v1):W / V≤h / v1:=by
 rw[Nat.le_div_iff_mul_le hv1];apply Classical.byContradiction;intro hc;have h1:W / V*V≤W:=Nat.div_mul_le_self W V;have h2:(h+1)*(B*P)≤W / V*v1*(B*P):=Nat.mul_le_mul_right _ (by omega);have h3:W / V*v1*(B*P)≤W / V*V:=by
  rw[Nat.mul_assoc];apply Nat.mul_le_mul_left;omega
 have h4:(u0+1)*P≤B*P:=Nat.mul_le_mul_right _ hu0;rw[Nat.add_mul,Nat.one_mul] at h2 h4;omega
theorem Qfw(B P h u0 lw v1 v0 lv W V g r:Nat)(hP:0<P)(hW:W=h*(B*P)+u0*P+lw)(hV:V=v1*(B*P)+v0*P+lv)(hlw:lw<P)(hV0:0<V)
 (hg:g*v1+r=h) (hc:r*B+u0<g*v0):W / V<g:=by
 rw[Nat.div_lt_iff_lt_mul hV0,hV,Nat.mul_add,Nat.mul_add,hW,←hg,Nat.add_mul,Nat.mul_assoc];have h1:(r*B+u0+1)*P≤g*v0*P:=Nat.mul_le_mul_right _ hc;rw[Nat.add_mul,Nat.add_mul,Nat.one_mul,Nat.mul_assoc] at h1;rw[←Nat.mul_assoc g v0 P];omega
theorem Qkq(B:Nat)(us:List Nat)(j n:Nat)(h:j+n+3≤us.length)(hz:val B (us.drop (j+n+3))=0):
 val B (us.drop j)=(us.getD (j+n+2) 0*B+us.getD (j+n+1) 0)*(B*B ^ n)+us.getD (j+n) 0*B ^ n+val B ((us.drop j).take n):=by
 rw[Qah B (us.drop j) n (by rw[List.length_drop];omega),List.drop_drop,Qai B us (j+n) (by omega),Qai B us (j+n+1) (by omega),Qai B us (j+n+2) (by omega),hz];simp only[Nat.mul_zero,Nat.add_zero];have e1:B ^ n*(us.getD (j+n) 0+B*(us.getD (j+n+1) 0+B*us.getD (j+n+2) 0))=(us.getD (j+n+2) 0*B+us.getD (j+n+1) 0)*(B*B ^ n)+us.getD (j+n) 0*B ^ n:=by
  generalize us.getD (j+n) 0=x;generalize us.getD (j+n+1) 0=y;generalize us.getD (j+n+2) 0=z;generalize B ^ n=P;rw[Nat.mul_add,Nat.mul_comm P x,Nat.mul_left_comm P B,Nat.mul_left_comm (z*B+y) B P,Nat.mul_comm P,Nat.add_comm,Nat.add_comm y,Nat.mul_comm B z]
 omega
theorem Qkr(B:Nat)(v:List Nat)(n:Nat)(h:v.length=n+2):
 val B v=v.getD (n+1) 0*(B*B ^ n)+v.getD n 0*B ^ n+val B (v.take n):=by
 rw[Qah B v n (by omega),Qai B v n (by omega),Qai B v (n+1) (by omega),List.drop_of_length_le (by omega)];simp only[val,Nat.mul_zero,Nat.add_zero];have e1:B ^ n*(v.getD n 0+B*v.getD (n+1) 0)=v.getD (n+1) 0*(B*B ^ n)+v.getD n 0*B ^ n:=by
  generalize v.getD n 0=x;generalize v.getD (n+1) 0=y;generalize B ^ n=P;rw[Nat.mul_add,Nat.mul_comm P x,Nat.mul_left_comm P B y,Nat.mul_left_comm y B P,Nat.mul_comm P y,Nat.add_comm]
 omega
theorem Qfx(B:Nat)(hB:0<B)(us:List Nat)(p:Nat)(h:val B us<B ^ p)(hp:p≤us.length):val B (us.drop p)=0:=by
 rw[Qah B us p hp] at h;apply Classical.byContradiction;intro hc;have:=Nat.mul_le_mul_left (B ^ p) (show 1≤val B (us.drop p) by omega);omega
theorem Qfy{X V x y p Q R:Nat}(hp:0<p)(hX:x*p=X)(hV:y*p=V)(h:R+V*Q=X)(hR:R<V):Q=x / y∧R / p=x % y:=by
 have hy:0<y:=by
  rcases Nat.eq_zero_or_pos y with h0|h0
  · rw[h0,Nat.zero_mul] at hV;omega
  · exact h0
 have hQ:Q=x / y:=by
  rw[←Nat.mul_div_mul_right x y hp,hX,hV,←h,Nat.add_mul_div_left _ _ (by omega),Nat.div_eq_of_lt hR,Nat.zero_add]
 refine⟨hQ,?_⟩;have h1:R=X % V:=by rw[←h,Nat.add_mul_mod_self_left,Nat.mod_eq_of_lt hR]
 rw[h1,←hX,←hV,Nat.mul_mod_mul_right,Nat.mul_div_cancel _ hp]
theorem Qfz(B:Nat):∀(l:List Nat),(∀i,l.getD i 0=0)→val B l=0
 | [],_=>rfl
 |d :: l,h=>by
  have h0:d=0:=h 0;have h1:=Qfz B l (fun i=>h (i+1));rw[Qb9,h0,h1];simp
theorem Qf0(B:Nat)(hB:0<B):∀(l:List Nat),val B l=0→∀i,l.getD i 0=0
 | [],_,i=>by simp
 |d :: l,h,i=>by
  rw[Qb9] at h;have h1:val B l=0:=by
   rcases Nat.eq_zero_or_pos (val B l) with h2|h2
   · exact h2
   · have:=Nat.mul_pos hB h2;omega
  match i with
  |0=>show d=0;omega
  |i+1=>exact Qf0 B hB l h1 i
theorem Qf1(l:List Nat)(k i:Nat):(l.drop k).getD i 0=l.getD (k+i) 0:=by
 rw[List.getD_eq_getElem?_getD,List.getD_eq_getElem?_getD,List.getElem?_drop]
end Go.Proofs.YtbbkamnfjejceaaGreatDoor
