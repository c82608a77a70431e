/- package rig: whether holds are right. -/
import Derived.Test.YtldjeecnapgakaaGreatDoorV25FVal
import Derived.Deep.Slices
import Derived.KernelRfl
import Derived.Test.YtldjeecnapgakaaGreatDoorRows
import Derived.ProofKit
import Derived.OpenShut
import Derived.Carry
import Derived.Lib.LaidTab
import Derived.Shelf.LaysM
import Derived.Deep.RegionLaw
import Derived.Deep.Upon
import Derived.Laws.OwnMore
import Derived.WideKeyRuns
import Derived.MapKept
namespace Go.Proofs.YtldjeecnapgakaaGreatDoor
open Go
open Go.Proofs.Tryz
set_option linter.unusedSimpArgs false
set_option linter.unusedVariables false
set_option maxHeartbeats 8000000
set_option maxRecDepth 1000000
theorem Qqv(ds:List Nat)(h:Small 10 ds):decVal (ds.reverse.map (fun d=>UInt8.ofNat (48+d)))=val 10 ds:=by
 induction ds with
 |nil=>rfl
 |cons d l ih=>
  have h1:=h d (List.mem_cons_self ..);have h2:=ih fun e he=>h e (List.mem_cons_of_mem _ he)
  have h3:(UInt8.ofNat (48+d)).toNat=48+d:=by
   rw[UInt8.toNat_ofNat'];omega
  rw[List.reverse_cons,List.map_append,List.map_cons,List.map_nil,Qdd,h2,h3,Qbb];omega
theorem IsDec.dig{l:List UInt8}{n:Nat}(h:IsDec l n):IsDig l/\decVal l=n:=by
 rcases h with ⟨rfl,rfl⟩|⟨h0,ds,hd,rfl⟩
 . exact⟨⟨by decide,fun c hc=>by simp at hc;subst hc;decide⟩,by decide⟩
 .
  refine⟨⟨?_,?_⟩,by rw[Qqv ds hd.small];exact hd.eq⟩
  .
   intro hn;have:ds= []:=by simpa using hn
   subst this;exact h0 (by rw[<-hd.eq];rfl)
  .
   intro c hc;obtain⟨d,hm,rfl⟩:=List.mem_map.1 hc;have h1:=hd.small d (by simpa using hm);rw[UInt8.toNat_ofNat'];omega
theorem Qqw{l:List UInt8}(h:AllDigits l):Lib.index l [47]= -1:=by
 induction l with
 |nil=>rfl
 |cons c l ih=>
  have h1:=h c (List.mem_cons_self ..);have h2:=ih fun d hd=>h d (List.mem_cons_of_mem _ hd)
  have h3:((47:UInt8) == c)=false:=by
   rw[beq_eq_false_iff_ne];rintro rfl;exact absurd h1.1 (by decide)
  unfold Lib.index;rw[h2];simp[List.isPrefixOf,h3]
theorem Qqx{l:List UInt8}(d:List UInt8)(h:AllDigits l):Lib.index (l++47 :: d) [47]=l.length:=by
 induction l with
 |nil=>simp[Lib.index,List.isPrefixOf]
 |cons c l ih=>
  have h1:=h c (List.mem_cons_self ..);have h2:=ih fun d hd=>h d (List.mem_cons_of_mem _ hd)
  have h3:((47:UInt8) == c)=false:=by
   rw[beq_eq_false_iff_ne];rintro rfl;exact absurd h1.1 (by decide)
  have h4:((l.length:Int) == -1)=false:=by
   rw[beq_eq_false_iff_ne];omega
  rw[List.cons_append];unfold Lib.index;rw[h2];simp[List.isPrefixOf,h3,h4]
theorem Qfd{l:List UInt8}(h:AllDigits l):Lib.cut l [47]=(l,[],false):=by
 unfold Lib.cut;rw[Qqw h];rfl
theorem Qfe{l:List UInt8}(d:List UInt8)(h:AllDigits l):Lib.cut (l++47 :: d) [47]=(l,d,true):=by
 unfold Lib.cut;rw[Qqx d h,if_pos (by omega)];simp
theorem Qix{l:List UInt8}(t:List UInt8)(h:IsDig l):Lib.hasPrefix (l++t) [45]=false:=by
 obtain⟨h0,h⟩:=h;cases l with
 |nil=>exact absurd rfl h0
 |cons c l=>
  have h1:=h c (List.mem_cons_self ..);have h3:((45:UInt8) == c)=false:=by
   rw[beq_eq_false_iff_ne];rintro rfl;exact absurd h1.1 (by decide)
  simp[Lib.hasPrefix,List.isPrefixOf,h3]
theorem Qqy{l:List UInt8}(t:List UInt8)(h:IsDig l):Lib.trimPrefix (l++t) [45]=l++t:=by
 unfold Lib.trimPrefix;rw[Qix t h];rfl
theorem Qiy(t:List UInt8):Lib.hasPrefix (45 :: t) [45]=true:=by
 simp[Lib.hasPrefix,List.isPrefixOf]
theorem Qqz(t:List UInt8):Lib.trimPrefix (45 :: t) [45]=t:=by
 unfold Lib.trimPrefix;rw[Qiy t];rfl
theorem Qiz(X:Int):sgn (decide (X<0)) X.natAbs=X:=by
 unfold sgn;by_cases h:X<0
 . simp[h];omega
 . simp[h];omega
theorem QText.back{l:List UInt8}{q:Rat}(h:QText l q):QOf l q:=by
 obtain⟨m,⟨k,hk,rfl⟩,h⟩:=h;obtain⟨hd,hv⟩:=hk.dig;have e1:∀t,Lib.hasPrefix ((if q.num<0 then 45 :: k else k)++t) [45]=decide (q.num<0):=by
  intro t;by_cases h0:q.num<0
  . simp only[h0,if_true,decide_true,List.cons_append];exact Qiy _
  . simp only[h0,if_false,decide_false];exact Qix t hd
 have e2:∀t,Lib.trimPrefix ((if q.num<0 then 45 :: k else k)++t) [45]=k++t:=by
  intro t;by_cases h0:q.num<0
  . simp only[h0,if_true,List.cons_append];exact Qqz _
  . simp only[h0,if_false];exact Qqy t hd
 rcases h with ⟨h1,rfl⟩|⟨h1,d,hdd,rfl⟩
 .
  have e3:=e1 [];have e4:=e2 [];rw[List.append_nil] at e3 e4;rw[List.append_nil] at e4;have:=Qds (c1:=k) (c2:=[]) (bar:=false) e4 e3 (by rw[Qfd hd.2]) (by rw[Qfd hd.2]) (by rw[Qfd hd.2]) hd (fun h=>by cases h);rw[hv,Qiz] at this;have e5:mkRat q.num (if false=true then decVal [] else 1)=q:=by
   have:=Rat.mkRat_self q;rw[h1] at this;exact this
  rw[e5] at this;exact this
 .
  obtain⟨gd,gv⟩:=hdd.dig;have:=Qds (c1:=k) (c2:=d) (bar:=true) (e2 (47 :: d)) (e1 (47 :: d)) (by rw[Qfe d hd.2]) (by rw[Qfe d hd.2]) (by rw[Qfe d hd.2]) hd (fun _=>gd);rw[hv,Qiz,gv] at this;have e5:mkRat q.num (if true=true then q.den else 1)=q:=Rat.mkRat_self q;rw[e5] at this;exact this
end Go.Proofs.YtldjeecnapgakaaGreatDoor
namespace Go.Proofs.YtldjeecnapgakaaGreatDoor
open Go.RowKit
open Go.Proofs.Tryz
set_option linter.unusedSimpArgs false
set_option linter.unusedVariables false
set_option maxHeartbeats 8000000
set_option maxRecDepth 1000000
theorem Qfh:prog.cellsOf 23=1:=by kernel_rfl
end Go.Proofs.YtldjeecnapgakaaGreatDoor
namespace Go.Proofs.YtldjeecnapgakaaGreatDoor
open Go.ChangeShapes Go.WideShapes Go.ChangeAt Go.RowKit
open Go.Proofs.Tryz
set_option linter.unusedSimpArgs false
set_option linter.unusedVariables false
set_option maxHeartbeats 8000000
set_option maxRecDepth 1000000
theorem own:ownKnob prog.godebug=none:=by kernel_rfl
theorem Qfp:laidOutB prog=true:=by kernel_rfl
theorem Qju{H:Type}{d:DataW H}{l:List (DataW H)}(h:d∈ l):Rows.uptoBulk d<=Rows.uptoBulkAll l:=by
 induction l with
 |nil=>cases h
 |cons x r ih=>
  simp only[Rows.uptoBulkAll];rcases List.mem_cons.1 h with rfl|h
  . omega
  . have:=ih h;omega
theorem Qse{H:Type}(l r:List (DataW H)):Rows.uptoBulkAll l<=Rows.uptoBulk (.slice l r):=by
 simp only[Rows.uptoBulk];omega
theorem Qcd{P:Program}{W:World}{x:String × DataW Unit}{l:List (String × DataW Unit)}(h:laidMet P (x :: l) W):laidMet P l W:=by
 obtain⟨ps,⟨g,t,cs,fuel,p,q,_,_,_,_,hl,rfl⟩,hn,hc⟩:=h;exact⟨q,hl,(List.nodup_append.1 hn).2.1,fun b off hm=>hc b off (List.mem_append.2 (.inr hm))⟩
theorem gTen:prog.globalNamed "internal/strconv.uint64pow10" =some 6:=by kernel_rfl
theorem Qsf:(prog.globals[6]?).map (·.type)=some 228:=by kernel_rfl
theorem Qsg:prog.cellsOf 228=20:=by kernel_rfl
theorem Qsh:prog.cellsOf 119=1:=by kernel_rfl
theorem Qsi:(Rows.laid_internal_strconv_uint64pow10:DataW Unit)=Lib.tabData .u64 Lib.pow10Tab:=by kernel_rfl
theorem Qsj{W:World}{rest:List (String × DataW Unit)}(h:laidMet prog (("internal/strconv.uint64pow10",Rows.laid_internal_strconv_uint64pow10) :: rest) W):Tab W:=by
 rw[Qsi] at h;exact Lib.tabIs_of_head gTen Qsf underlying228 underlying119 Qsh Qsg h
theorem Qsk{W:World}(h:W.ShapedOpen prog):∃m,W.cell? ⟨1,0,none⟩=some (.int .i64 m):=
 cell_of_shapedOpen_int (zero:=#[.int .i64 0]) (t:=3) h (of_decide_eq_true (by kernel_rfl)) (by kernel_rfl) rfl (by kernel_rfl) (by kernel_rfl) underlying3
def flat1:DataW Unit->List Value
 | .lit (.int k z)=>[.int k z]
 | .lit (.string bs)=>[.string ⟨bs.toArray⟩]
 |_=>[]
def flat2:DataW Unit->List Value
 | .agg ps=>ps.flatMap flat1
 |d=>flat1 d
def flat3:DataW Unit->List Value
 | .agg ps=>ps.flatMap flat2
 |d=>flat1 d
def put(g:Nat)(d:DataW Unit)(w:World):World:={ w with heap:=w.heap.modify g fun
 | .cells _ t frozen=>.cells (flat3 d).toArray t frozen
 |o=>o }
end Go.Proofs.YtldjeecnapgakaaGreatDoor
namespace Go.Proofs.YtldjeecnapgakaaGreatDoor
open Go.RowKit
open Go.Proofs.Tryz
set_option linter.unusedSimpArgs false
set_option linter.unusedVariables false
set_option maxHeartbeats 8000000
set_option maxRecDepth 1000000
structure CRow (w:World) (a:Option Addr) (xs:List Value):Prop where
 cell:∀j u,xs[j]?=some u->∃b off,a=some ⟨b,off,none⟩/\b<w.heap.size/\w.cell? ⟨b,off+j,none⟩=some u
theorem CRow.below{w w':World}{a:Option Addr}{xs:List Value}(h:CRow w a xs)(hb:Below w.heap.size w w'):CRow w' a xs:=by
 refine⟨fun j u hj=>?_⟩;obtain⟨b,off,h1,h2,h3⟩:=h.cell j u hj;exact⟨b,off,h1,by have:=hb.size;omega,ce hb h2 h3⟩
section
variable {P:Program} {t e:TypeId} {i:TypeInfo} {size:Nat}
theorem Qe4(b off j:Nat):Addr.add ⟨b,off,none⟩ j=⟨b,off+j,none⟩:=by
 unfold Addr.add;by_cases hj:j=0<;>simp[hj]
theorem Qh8(ht:P.underlying t=some (.slice e))(hi:P.info? e=some i)(hsize:i.size=size)(h0:0<size){w:World}{g c base n cap:Nat}{a:Option Addr}{xs:List Value}
 (hown:w.ownsRow base e size (.slice (some ⟨g,0,none⟩) 0 c) 0 []) (hx:CRow w a xs) (hl:xs.length=n*size) (h1:∀u∈ xs,u.oneCell'=true) (hroom:n<=c) (ty:TypeId):
 ∃w',(Builtin.append_ #[t,t] ty #[.slice (some ⟨g,0,none⟩) 0 c,.slice a n cap]).run P w=.ok (.slice (some ⟨g,0,none⟩) n c) w'/\w'.ownsRow base e size (.slice (some ⟨g,0,none⟩) n c) n xs/\w.grownBy w' (some g):=by
 cases a with
 |none=>
  have hnil:xs= []:=by
   cases xs with
   |nil=>rfl
   |cons u l=>
    obtain⟨b,off,h,_⟩:=hx.cell 0 u rfl;cases h
  subst hnil;have hn:n=0:=by
   rcases Nat.eq_zero_or_pos n with h|h
   . exact h
   .
    have:=Nat.mul_pos h h0;simp at hl;omega
  subst hn;have hs:Src P i.size t (.slice none 0 cap) 0 [] w:=Src.ofNil w ht cap;exact⟨w,run_append_nothing w t t ty e i ht hi _ 0 c (Nat.zero_le _) _ hs,hown,⟨rfl,rfl,rfl,Nat.le_refl _,fun _ _ _=>rfl⟩⟩
 |some ad=>
  have hnews:∀j u,xs[j]?=some u->w.cell? (ad.add j)=some u:=by
   intro j u hj;obtain⟨b,off,h,_,hc⟩:=hx.cell j u hj;cases h;rw[Qe4];exact hc
  have:=run_append_fits w base t ty e i size ht hi hsize g 0 c [] hown ad n cap xs hl hnews h1 (by omega)
  simpa using this
theorem Qh9{ops:Array Oper}{o:Oper}{a:Act}{w:World}{K:Act->World->Prop}{Q:Exit->Act->World->Prop}{E:Prop}
 (hg:o.guard=none) (s x:Operand) (hop:o.op=Op.call { callee:=Callee.builtin Builtin.append,args:=#[s,x],argTypes:=#[t,t] })
 {vs vx v:Value} {w':World} (hs:a.eval s=vs) (hx:a.eval x=vx) (hrun:(Builtin.append_ #[t,t] o.type #[vs,vx]).run P w=.ok v w') (hK:K (a.put o.dst v) w'):
 if Region.wanted o (yielded ops a.tmps)=true then Oper.wp P o a w K Q else E:=by
 have hw:Region.wanted o (yielded ops a.tmps)=true:=by simp[Region.wanted,hg]
 rw[if_pos hw];unfold Oper.wp;simp[execOp,hop,resolve,invoke,builtin,hs,hx,hrun,Result.andThen];exact hK
theorem Qe5(ht:P.underlying t=some (.slice e))(hi:P.info? e=some i)(hsize:i.size=size)(h0:0<size){ops:Array Oper}{o:Oper}{a:Act}{w:World}{K:Act->World->Prop}{Q:Exit->Act->World->Prop}{E:Prop}
 (hg:o.guard=none) (s x:Operand) (hop:o.op=Op.call { callee:=Callee.builtin Builtin.append,args:=#[s,x],argTypes:=#[t,t] })
 {g c n cap:Nat} (base:Nat) {ad:Option Addr} {xs:List Value} (hs:a.eval s=.slice (some ⟨g,0,none⟩) 0 c) (hx:a.eval x=.slice ad n cap)
 (hown:w.ownsRow base e size (.slice (some ⟨g,0,none⟩) 0 c) 0 []) (hr:CRow w ad xs) (hl:xs.length=n*size) (h1:∀u∈ xs,u.oneCell'=true) (hroom:n<=c)
 (hK:∀w',w'.ownsRow base e size (.slice (some ⟨g,0,none⟩) n c) n xs->w.grownBy w' (some g)->K (a.put o.dst (.slice (some ⟨g,0,none⟩) n c)) w'):
 if Region.wanted o (yielded ops a.tmps)=true then Oper.wp P o a w K Q else E:=by
 obtain⟨w',hrun,h2,h3⟩:=Qh8 ht hi hsize h0 (cap:=cap) hown hr hl h1 hroom o.type;exact Qh9 hg s x hop hs hx hrun (hK w' h2 h3)
theorem Qia(ht:P.underlying t=some (.slice e))(hi:P.info? e=some i)(hsize:i.size=size){ops:Array Oper}{o:Oper}{a:Act}{w:World}{K:Act->World->Prop}{Q:Exit->Act->World->Prop}{E:Prop}
 (hg:o.guard=none) (s x:Operand) (hop:o.op=Op.call { callee:=Callee.builtin Builtin.append,args:=#[s,x],argTypes:=#[t,t] })
 {g c n m cap gb:Nat} (base:Nat) {xs news:List Value} (hs:a.eval s=.slice (some ⟨g,0,none⟩) n c) (hx:a.eval x=.slice (some ⟨gb,0,none⟩) m cap)
 (hown:w.ownsRow base e size (.slice (some ⟨g,0,none⟩) n c) n xs) (hl:news.length=m*size) (hr:∀j u,news[j]?=some u->w.cell? ⟨gb,j,none⟩=some u) (h1:∀u∈ news,u.oneCell'=true) (hroom:n+m<=c)
 (hK:∀w',w'.ownsRow base e size (.slice (some ⟨g,0,none⟩) (n+m) c) (n+m) (xs++news)->w.grownBy w' (some g)->K (a.put o.dst (.slice (some ⟨g,0,none⟩) (n+m) c)) w'):
 if Region.wanted o (yielded ops a.tmps)=true then Oper.wp P o a w K Q else E:=by
 obtain⟨w',hrun,h2,h3⟩:=run_append_fits w base t o.type e i size ht hi hsize g n c xs hown ⟨gb,0,none⟩ m cap news hl (fun j u hj=>by rw[Qe4];simpa using hr j u hj) h1 hroom;exact Qh9 hg s x hop hs hx hrun (hK w' h2 h3)
end
theorem Below.ofGrown{B:Nat}{a w w':World}{g:Nat}(h:Below B a w)(hg:w.grownBy w' (some g))(hB:B<=w.heap.size)(hr:B<=g):Below B a w':=
 h.grown hg hB (fun k hk=>by cases hk;exact hr)
theorem Qib{w w':World}{g:Nat}(hg:w.grownBy w' (some g)){p:Addr}(hp:p.block<w.heap.size)(hne:p.block≠g):w'.cell? p=w.cell? p:=
 World.cell?_of_block (hg.block p.block hp (by simpa using hne))
theorem Qic{w:World}{base e size g n c:Nat}{xs:List Value}(h:w.ownsRow base e size (.slice (some ⟨g,0,none⟩) n c) n xs):CRow w (some ⟨g,0,none⟩) xs:=by
 refine⟨fun j u hj=>⟨g,0,rfl,(h.lt g rfl).2,?_⟩⟩;have hl:=h.1;have hj':=(gZ hj).1;rw[Nat.zero_add,h.cellAt j (by omega)];exact hj
theorem CRow.left{w:World}{a:Option Addr}{xs ys:List Value}(h:CRow w a (xs++ys)):CRow w a xs:=by
 refine⟨fun j u hj=>h.cell j u ?_⟩;rw[List.getElem?_append_left (gZ hj).1];exact hj
theorem Qj8:(prog.info? 23).map (fun i=>(i.zero,i.size,i.bytes))=some (some (.string ⟨#[]⟩),1,16):=by kernel_rfl
def textsV(ss:List ByteArray):List Value:=ss.map Value.string
theorem Qtk(n:Nat):madeCells (Value.cells (.string ⟨#[]⟩)) n=(textsV (List.replicate n ⟨#[]⟩)).toArray:=by
 have e:Value.cells (.string ⟨#[]⟩)=#[.string ⟨#[]⟩]:=by rfl
 rw[e];apply Array.ext';rw[toList_madeCells_one];simp[textsV]
theorem Qtl(n:Nat)(hn:n<=1048576)(w:World):(Instr.makeSlice 24 (.int .i64 n) (.int .i64 n)).run prog w=.ok (.slice (some ⟨w.heap.size,0,.none⟩) n n) (w.alloc (.cells (textsV (List.replicate n ⟨#[]⟩)).toArray 23)):=by
 obtain⟨i,hi,h⟩:=Option.map_eq_some_iff.1 Qj8;simp only[Prod.mk.injEq] at h;obtain⟨hz,hs,hb⟩:=h;have:=run_make w 24 23 i _ underlying24 hi hz .i64 .i64 n n (by omega) (by omega) (by rw[hb];omega) (by omega);rw[Int.toNat_natCast,hs,Nat.mul_one,Qtk] at this;exact this
theorem Qtm(ss:List ByteArray)(k:Nat)(s:ByteArray):textsV (ss.set k s)=(textsV ss).set k (.string s):=by simp[textsV]
structure ARow {α:Type} (c:α->List Value) (w:World) (a:Option Addr) (cap:Nat) (es:List α):Prop where
 fit:es.length<=cap
 row:CRow w a (es.flatMap c)
section
variable {α:Type} {c:α->List Value} {sz:Nat}
theorem ARow.below{w w':World}{a:Option Addr}{cap:Nat}{es:List α}(h:ARow c w a cap es)(hb:Below w.heap.size w w'):ARow c w' a cap es:=⟨h.fit,h.row.below hb⟩
theorem ARow.left{w:World}{a:Option Addr}{cap:Nat}{es fs:List α}(h:ARow c w a cap (es++fs)):ARow c w a cap es:=by
 refine⟨?_,?_⟩
 .
  have:=h.fit;simp at this;omega
 .
  have:=h.row;rw[List.flatMap_append] at this;exact this.left
theorem Qdl(hc:∀e,(c e).length=sz)(es:List α):(es.flatMap c).length=es.length*sz:=by
 induction es with
 |nil=>simp
 |cons e l ih=>rw[List.flatMap_cons,List.length_append,ih,hc,List.length_cons,Nat.succ_mul];omega
theorem Qnn(hc:∀e,∀u∈ c e,u.oneCell'=true)(es:List α):∀u∈ es.flatMap c,u.oneCell'=true:=by
 intro u hu;obtain⟨e,_,h⟩:=List.mem_flatMap.1 hu;exact hc e u h
theorem Qb4(hc:∀e,(c e).length=sz):∀(es:List α) (i:Nat) (e:α) (j:Nat) (u:Value),es[i]?=some e->(c e)[j]?=some u->(es.flatMap c)[i*sz+j]?=some u
 | [],i,e,j,u,h,_=>by simp at h
 |g :: l,0,e,j,u,h,hj=>by
  obtain rfl:g=e:=by simpa using h
  rw[List.flatMap_cons,Nat.zero_mul,Nat.zero_add,List.getElem?_append_left (gZ hj).1];exact hj
 |g :: l,i+1,e,j,u,h,hj=>by
  have:=Qb4 hc l i e j u (by simpa using h) hj;rw[List.flatMap_cons,List.getElem?_append_right (by rw[hc,Nat.succ_mul];omega),hc,show (i+1)*sz+j - sz=i*sz+j by rw[Nat.succ_mul];omega];exact this
theorem ARow.at(hc:∀e,(c e).length=sz)(h0:0<sz){w:World}{a:Option Addr}{cap:Nat}{es:List α}(h:ARow c w a cap es){i:Nat}{e:α}(hi:es[i]?=some e):
 ∃b off,a=some ⟨b,off,none⟩/\b<w.heap.size/\∀j u,(c e)[j]?=some u->w.cell? ⟨b,off+i*sz+j,none⟩=some u:=by
 have h1:∃u,(c e)[0]?=some u:=⟨_,gE (by rw[hc];exact h0)⟩;obtain⟨u,hu⟩:=h1;obtain⟨b,off,ha,hb,_⟩:=h.row.cell _ _ (Qb4 hc es i e 0 u hi hu);refine⟨b,off,ha,hb,fun j v hv=>?_⟩;obtain⟨b',off',ha',_,hcell⟩:=h.row.cell _ _ (Qb4 hc es i e j v hi hv);rw[ha] at ha';cases ha';rw[Nat.add_assoc];exact hcell
end
theorem Qsb{q:Rat}(h:¬q=0):sgn3 q.num=if q.num<0 then -1 else 1:=by
 have h1:q.num≠0:=fun hc=>h (Rat.num_eq_zero.1 hc)
 unfold sgn3;by_cases h2:q.num<0
 . rw[if_pos h2,if_pos h2]
 . rw[if_neg h2,if_neg h2,if_neg h1]
theorem Qfo{v:Value}{q:Rat}{w:World}(hx:FracV w v q):Calls prog 35 #[v] w fun e w'=>e=.returned (.int .i64 (sgn3 q.num))/\Below w.heap.size w w':=by
 have HX:=Hi hx;obtain⟨neg,a,n,c,b,m,d,rfl,hx⟩:=hx;have HN:=Hi hx.neg;clear hx;go_enter func35,ntmps35;go_wp2_with fail;obtain⟨W,hW⟩:=nm (w.alloc (.cells #[.bool neg,.slice a n c,.slice b m d] 63));have HB0:=Ua hW;have HSB:=Uc hW;rw[hW];clear hW;go_fit (Qhl (HX.o.below HB0.o));rintro e w1 ⟨rfl,hb1⟩;obtain⟨k0,-⟩:=zc (HSB.o.below hb1 HSB.o.lt);have HB1:=Hi (HB0.o.trans (hb1.mono HB0.o.size));clear hb1;by_cases h:q=0
 .
  have hd:decide (q=0)=true:=decide_eq_true h;rw[hd];go_wp2;go_ret;exact⟨by rw[h];rfl,HB1.o⟩
 .
  have hd:decide (q=0)=false:=decide_eq_false h;rw[hd];have e3:=Qsb h;by_cases h2:q.num<0
  .
   obtain rfl:neg=true:=by rw[HN.o];exact decide_eq_true h2
   rw[if_pos h2] at e3;have E3:=Hi e3;clear e3 HN;go_wp2;go_ret;exact⟨by rw[E3.o];rfl,HB1.o⟩
  .
   obtain rfl:neg=false:=by rw[HN.o];exact decide_eq_false h2
   rw[if_neg h2] at e3;have E3:=Hi e3;clear e3 HN;go_wp2;go_ret;exact⟨by rw[E3.o];rfl,HB1.o⟩
theorem Tryz.faultInfo:(prog.info? 32).map (·.size)=some 2:=by kernel_rfl
end Go.Proofs.YtldjeecnapgakaaGreatDoor
