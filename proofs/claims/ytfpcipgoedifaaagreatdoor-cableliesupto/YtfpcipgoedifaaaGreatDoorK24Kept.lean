/- raftersame's Kept: a frame that was lent stands as it did. -/
import Derived.Test.YtfpcipgoedifaaaGreatDoorK23RegI
import Derived.Test.YtfpcipgoedifaaaGreatDoorK22FVal
import Derived.Deep.Slices
import Derived.KernelRfl
import Derived.Test.YtfpcipgoedifaaaGreatDoorRows
import Derived.ProofKit
import Derived.OpenShut
import Derived.Carry
import Derived.Lib.LaidTab
import Derived.Shelf.LaysM
import Derived.Deep.RegionLaw
import Derived.Deep.Upon
import Derived.Laws.OwnMore
namespace Go.Proofs.YtfpcipgoedifaaaGreatDoor
open Go Go.RowKit
set_option linter.unusedVariables false
section
variable {P:Program} {ops:Array Oper} {Q:Exit→Act→World→Prop}
def WaitedTo(ops:Array Oper)(i:Nat):Bool:=(List.range i).all fun j=>(List.range (i+1)).any fun k=>(depsOf ops k).contains j
theorem WaitedTo.down{L:List Nat}{i:Nat}(hw:WaitedTo ops i=true){n:Nat}(F:RegFine ops n)(hd:∀j∈ depsOf ops i,j∈ L)(hc:∀k∈ L,∀j∈ depsOf ops k,j∈ L):∀j,j<i→j∈ L:=by
 have key:∀k j,k+j+1=i→j∈ L:=by
  intro k
  induction k using Nat.strongRecOn with
  |_ k ih=>
   intro j hj;unfold WaitedTo at hw;simp only[List.all_eq_true,List.any_eq_true,List.mem_range,List.contains_eq_mem,decide_eq_true_eq] at hw;obtain⟨m,hm,hcm⟩:=hw j (by omega);have hlt:=F.low m j hcm;by_cases hmi:m=i
   · subst hmi;exact hd j hcm
   · exact hc m (ih (i - m - 1) (by omega) m (by omega)) j hcm
 intro j hj;exact key (i - j - 1) j (by omega)
theorem Qsx{n m:Nat}(F:RegFine ops n)(hch:∀i,m≤i→i<ops.size→WaitedTo ops i=true):∀(k i:Nat) (listed:Array Bool) (a:Act) (w:World),i+k=ops.size→m≤i→listed.size=ops.size→(∀j,j<ops.size→listed[j]?=some (decide (j<i)))→wpOps P ops Q (List.range' i k) a w→wpAny P .any ops Q k listed a w:=by
 intro k;have only:∀(i:Nat) (listed:Array Bool),m≤i→listed.size=ops.size→(∀j,j<ops.size→listed[j]?=some (decide (j<i)))→∀r∈ Region.ready .any ops listed,r=i:=by
  intro i listed hi hs hm r hr;obtain⟨h1,o,ho,h2⟩:=mem_ready.1 hr;have hlt:r<ops.size:=(Array.getElem?_eq_some_iff.1 ho).1;rw[Array.getD_eq_getD_getElem?,hm r hlt] at h1;have hri:i≤r:=by simpa using h1
  apply Classical.byContradiction;intro hne;have hd:∀j∈ depsOf ops r,j∈ List.range i:=fun j hj=>by
   obtain⟨e,he,hb,rfl⟩:=(Qec ho).1 hj;have h3:=h2 e he hb;rcases Nat.lt_or_ge e.on ops.size with h4|h4
   · rw[Array.getD_eq_getD_getElem?,hm _ h4] at h3
     simpa using h3
   · rw[Array.getD_eq_getD_getElem?,Array.getElem?_eq_none (by rw[hs];exact h4)] at h3
     cases h3
  have:=(WaitedTo.down (hch r (by omega) hlt) F hd (fun k hk j hj=>by
   have:=F.low k j hj;have:=List.mem_range.1 hk
   exact List.mem_range.2 (by omega))) i (by omega)
  have:=List.mem_range.1 this;omega
 induction k with
 |zero=>
  intro i listed a w hi hm hs hl h;refine⟨?_,h⟩;cases hr:Region.ready .any ops listed with
  |nil=>rfl
  |cons r rs=>
   have h0:=only i listed hm hs hl r (by rw[hr];exact List.mem_cons_self);obtain⟨h1,o,ho,_⟩:=mem_ready.1 (show r∈ Region.ready .any ops listed by rw[hr];exact List.mem_cons_self);have:=(Array.getElem?_eq_some_iff.1 ho).1;omega
 |succ k ih=>
  intro i listed a w hi hm hs hl h;have hlt:i<ops.size:=by omega
  rw[List.range'_succ,wpOps_cons] at h;refine⟨fun h0=>?_,fun r hr=>?_⟩
  ·
   have:i∈ Region.ready .any ops listed:=mem_ready.2 ⟨by rw[Array.getD_eq_getD_getElem?,hl i hlt];simp,ops[i],Array.getElem?_eq_getElem hlt,fun e he hb=>by
    have hd:=(Qec (Array.getElem?_eq_getElem hlt)).2 ⟨e,he,hb,rfl⟩;have h1:=F.low i _ hd;rw[Array.getD_eq_getD_getElem?,hl _ (by omega)]
    simpa using h1⟩
   rw[h0] at this;cases this
  ·
   obtain rfl:=only i listed hm hs hl r hr;refine wpOp_mono (fun a' w' h'=>ih (r+1) _ a' w' (by omega) (by omega) (by simp[hs]) (fun j hj=>?_) h') h;by_cases he:j=r
   ·
    subst he;rw[Array.getElem?_setIfInBounds_self_of_lt (by rw[hs];exact hj)];simp
   ·
    rw[Array.getElem?_setIfInBounds_ne (fun h=>he h.symm),hl j hj]
    congr 1
    rw[decide_eq_decide];omega
def ChainTo(ops:Array Oper)(m:Nat):Bool:=(List.range ops.size).all fun i=>decide (i<m) || WaitedTo ops i
theorem RegX.tail{R:World→World→Prop}(hR:RelOK R){n:Nat}{a0:Act}{w0:World}{ds:Nat→Option Tmp}{Φ:List Fact}{m k:Nat}(hm:Φ.length=m)(hk:m+k=ops.size)(hk0:0<k)(hw:ChainTo ops m=true)
 (h:∀w,R w0 w→FinG ds (fun a=>wpOps P ops Q (List.range' m k) a w) w Φ 0 a0):RegX R P ops Q m n a0 w0 ds Φ:=fun hds F hn hst=>by
 have hch:∀i,m≤i→i<ops.size→WaitedTo ops i=true:=fun i hi hlt=>by
  unfold ChainTo at hw;simp only[List.all_eq_true,List.mem_range,Bool.or_eq_true,decide_eq_true_eq] at hw;rcases hw i hlt with h1|h1
  · omega
  · exact h1
 refine Qkm hR F hn hds (by omega) hst (fun L listed xs a w H full=>?_) (fun i L listed xs a w fuel H hi hle hf=>?_) ops.size [] _ (fun _=>undef) a0 w0 (AtX.begin hR) (by simp)
 ·
  have:=H.facts m (full m (by omega));rw[List.getD_eq_getElem?_getD,List.getElem?_eq_none (by omega)] at this;exact this.elim
 ·
  obtain⟨hlt,hnL,hdd,_⟩:=H.ready hi;have low:∀j∈ L,j<m:=fun j hj=>by
   rcases Nat.lt_or_ge j m with h1|h1
   · exact h1
   ·
    have:=H.facts j hj;rw[List.getD_eq_getElem?_getD,List.getElem?_eq_none (by omega)] at this;exact this.elim
  have full:∀j,j<i→j∈ L:=WaitedTo.down (hch i (by omega) hlt) F hdd H.closed;have him:i=m:=by
   apply Classical.byContradiction;intro hne;have:=low m (full m (by omega));omega
  subst him;have mem:∀j,j∈ L↔j<i:=fun j=>⟨low j,full j⟩
  have h1:=FinG.use (ops:=ops) (xs:=xs) Φ 0 a0 (fun j hj=>by rw[Nat.zero_add];exact hds j (by omega)) (h w H.base) (fun j hj=>by rw[Nat.zero_add];exact H.facts j (full j (by omega)));have e:putL ops xs L a0=putL ops xs ((List.range Φ.length).map (0+ ·)) a0:=by
   refine Qf2 F hn (fun j=>?_);constructor
   · intro hj;exact List.mem_map.2 ⟨j,List.mem_range.2 (by have:=low j hj;omega),by omega⟩
   ·
    intro hj;obtain⟨r,hr,rfl⟩:=List.mem_map.1 hj;exact full _ (by have:=List.mem_range.1 hr;omega)
  rw[←e,←H.act] at h1;have hlen:L.length=i:=by
   have h2:=Qf3 L i H.nodup low;have h3:=(List.nodup_range (n:=i)).length_le_of_subset (l₂:=L) (fun j hj=>full j (List.mem_range.1 hj));simp at h3;omega
  have hkf:k=fuel+1:=by omega
  subst hkf;exact(Qsx F hch (fuel+1) i listed a w (by omega) (Nat.le_refl _) H.size (fun j hj=>by rw[H.marks j hj];congr 1;rw[decide_eq_decide];exact mem j) h1).2 i hi
end
end Go.Proofs.YtfpcipgoedifaaaGreatDoor
namespace Go.Proofs.YtfpcipgoedifaaaGreatDoor
open Go
set_option linter.unusedVariables false
section
variable {P:Program} {ops:Array Oper} {Q:Exit->Act->World->Prop} {md:Region.Mode} {S:World->Prop} {k:Nat}
def waits(md:Region.Mode)(ops:Array Oper)(k i:Nat):Bool:=match ops[k]? with
 |some o=>o.after.any (fun e=>Region.binds md e && (e.on == i))
 |none=>false
theorem Qjp{i:Nat}(h:waits md ops k i=true){o:Oper}(ho:ops[k]?=some o):¬∀e∈ o.after,Region.binds md e=true->e.on≠i:=by
 unfold waits at h;rw[ho] at h;simp only[Array.any_eq_true] at h;obtain⟨j,hj,he⟩:=h;simp only[Bool.and_eq_true,beq_iff_eq] at he;intro hc;exact hc _ (Array.getElem_mem hj) he.1 he.2
end
end Go.Proofs.YtfpcipgoedifaaaGreatDoor
namespace Go.Proofs.YtfpcipgoedifaaaGreatDoor
open Go.RowKit
set_option linter.unusedVariables false
set_option linter.unusedSimpArgs false
set_option maxRecDepth 100000 in
theorem Qbu(s t:ByteArray)(w:World):Calls Tryz.prog 18 #[.string s,.string t] w fun e w'=>e=.returned (.agg #[.string s,.string t])/\Below w.heap.size w w':=by
 have HB:=Hi ((Below.refl w.heap.size w).alloc lZ (.cells #[.string s,.string t] 42));go_enter Tryz.func18,Tryz.ntmps18;go_wp2;refine bodyPost_ret (results_cell_row rfl _ _ w.heap.size 42 #[.string s,.string t] (0,0) _ rfl (SB.new w _ _) Tryz.underlying42 rfl Tryz.spotInfo) rfl ?_;exact⟨rfl,HB.out⟩
end Go.Proofs.YtfpcipgoedifaaaGreatDoor
namespace Go.Proofs.YtfpcipgoedifaaaGreatDoor
open Go
set_option linter.unusedVariables false
theorem Qrm(ds:List Nat)(h:Small 10 ds):decVal (ds.reverse.map (fun d=>UInt8.ofNat (48+d)))=val 10 ds:=by
 induction ds with
 |nil=>rfl
 |cons d l ih=>
  have h1:=h d (List.mem_cons_self ..);have h2:=ih fun e he=>h e (List.mem_cons_of_mem _ he)
  have h3:(UInt8.ofNat (48+d)).toNat=48+d:=by
   rw[UInt8.toNat_ofNat'];omega
  rw[List.reverse_cons,List.map_append,List.map_cons,List.map_nil,Qda,h2,h3,Qbj];omega
theorem IsDec.dig{l:List UInt8}{n:Nat}(h:IsDec l n):IsDig l/\decVal l=n:=by
 rcases h with ⟨rfl,rfl⟩|⟨h0,ds,hd,rfl⟩
 · exact⟨⟨by decide,fun c hc=>by simp at hc;subst hc;decide⟩,by decide⟩
 ·
  refine⟨⟨?_,?_⟩,by rw[Qrm ds hd.small];exact hd.eq⟩
  ·
   intro hn;have:ds= []:=by simpa using hn
   subst this;exact h0 (by rw[<-hd.eq];rfl)
  ·
   intro c hc;obtain⟨d,hm,rfl⟩:=List.mem_map.1 hc;have h1:=hd.small d (by simpa using hm);rw[UInt8.toNat_ofNat'];omega
theorem Qrn{l:List UInt8}(h:AllDigits l):Lib.index l [47]= -1:=by
 induction l with
 |nil=>rfl
 |cons c l ih=>
  have h1:=h c (List.mem_cons_self ..);have h2:=ih fun d hd=>h d (List.mem_cons_of_mem _ hd)
  have h3:((47:UInt8) == c)=false:=by
   rw[beq_eq_false_iff_ne];rintro rfl;exact absurd h1.1 (by decide)
  unfold Lib.index;rw[h2];simp[List.isPrefixOf,h3]
theorem Qro{l:List UInt8}(d:List UInt8)(h:AllDigits l):Lib.index (l++47 :: d) [47]=l.length:=by
 induction l with
 |nil=>simp[Lib.index,List.isPrefixOf]
 |cons c l ih=>
  have h1:=h c (List.mem_cons_self ..);have h2:=ih fun d hd=>h d (List.mem_cons_of_mem _ hd)
  have h3:((47:UInt8) == c)=false:=by
   rw[beq_eq_false_iff_ne];rintro rfl;exact absurd h1.1 (by decide)
  have h4:((l.length:Int) == -1)=false:=by
   rw[beq_eq_false_iff_ne];omega
  rw[List.cons_append];unfold Lib.index;rw[h2];simp[List.isPrefixOf,h3,h4]
theorem Qfv{l:List UInt8}(h:AllDigits l):Lib.cut l [47]=(l,[],false):=by
 unfold Lib.cut;rw[Qrn h];rfl
theorem Qfw{l:List UInt8}(d:List UInt8)(h:AllDigits l):Lib.cut (l++47 :: d) [47]=(l,d,true):=by
 unfold Lib.cut;rw[Qro d h,if_pos (by omega)];simp
theorem Qjq{l:List UInt8}(t:List UInt8)(h:IsDig l):Lib.hasPrefix (l++t) [45]=false:=by
 obtain⟨h0,h⟩:=h;cases l with
 |nil=>exact absurd rfl h0
 |cons c l=>
  have h1:=h c (List.mem_cons_self ..);have h3:((45:UInt8) == c)=false:=by
   rw[beq_eq_false_iff_ne];rintro rfl;exact absurd h1.1 (by decide)
  simp[Lib.hasPrefix,List.isPrefixOf,h3]
theorem Qrp{l:List UInt8}(t:List UInt8)(h:IsDig l):Lib.trimPrefix (l++t) [45]=l++t:=by
 unfold Lib.trimPrefix;rw[Qjq t h];rfl
theorem Qjr(t:List UInt8):Lib.hasPrefix (45 :: t) [45]=true:=by
 simp[Lib.hasPrefix,List.isPrefixOf]
theorem Qrq(t:List UInt8):Lib.trimPrefix (45 :: t) [45]=t:=by
 unfold Lib.trimPrefix;rw[Qjr t];rfl
theorem Qjs(X:Int):sgn (decide (X<0)) X.natAbs=X:=by
 unfold sgn;by_cases h:X<0
 · simp[h];omega
 · simp[h];omega
theorem QText.back{l:List UInt8}{q:Rat}(h:QText l q):QOf l q:=by
 obtain⟨m,⟨k,hk,rfl⟩,h⟩:=h;obtain⟨hd,hv⟩:=hk.dig;have e1:∀t,Lib.hasPrefix ((if q.num<0 then 45 :: k else k)++t) [45]=decide (q.num<0):=by
  intro t;by_cases h0:q.num<0
  · simp only[h0,if_true,decide_true,List.cons_append];exact Qjr _
  · simp only[h0,if_false,decide_false];exact Qjq t hd
 have e2:∀t,Lib.trimPrefix ((if q.num<0 then 45 :: k else k)++t) [45]=k++t:=by
  intro t;by_cases h0:q.num<0
  · simp only[h0,if_true,List.cons_append];exact Qrq _
  · simp only[h0,if_false];exact Qrp t hd
 rcases h with ⟨h1,rfl⟩|⟨h1,d,hdd,rfl⟩
 ·
  have e3:=e1 [];have e4:=e2 [];rw[List.append_nil] at e3 e4;rw[List.append_nil] at e4;have:=Qd0 (c1:=k) (c2:=[]) (bar:=false) e4 e3 (by rw[Qfv hd.2]) (by rw[Qfv hd.2]) (by rw[Qfv hd.2]) hd (fun h=>by cases h);rw[hv,Qjs] at this;have e5:mkRat q.num (if false=true then decVal [] else 1)=q:=by
   have:=Rat.mkRat_self q;rw[h1] at this;exact this
  rw[e5] at this;exact this
 ·
  obtain⟨gd,gv⟩:=hdd.dig;have:=Qd0 (c1:=k) (c2:=d) (bar:=true) (e2 (47 :: d)) (e1 (47 :: d)) (by rw[Qfw d hd.2]) (by rw[Qfw d hd.2]) (by rw[Qfw d hd.2]) hd (fun _=>gd);rw[hv,Qjs,gv] at this;have e5:mkRat q.num (if true=true then q.den else 1)=q:=Rat.mkRat_self q;rw[e5] at this;exact this
end Go.Proofs.YtfpcipgoedifaaaGreatDoor
namespace Go.Proofs.YtfpcipgoedifaaaGreatDoor
open Go.RowKit
set_option linter.unusedVariables false
set_option linter.unusedSimpArgs false
theorem Qcv:Tryz.prog.cellsOf 40=1:=by kernel_rfl
theorem Qea:Tryz.prog.cellsOf 42=2:=by kernel_rfl
section
variable {H:Type} {enc:TypeId × Value->H} {P:Program} {w:World} {base:Nat} {spare:Nat->Bool} {held:Bool} {fuel:Nat} {cs:List Value} {x:DataW H × List MemPlace} {tF tS tQ:TypeId} {f0 f1 g0 g1:Field}
theorem Qj5(uS:P.underlying tS=some (.struct #[f0,f1]))(uQ:P.underlying tQ=some .string)(cS:P.cellsOf tS=2)(cQ:P.cellsOf tQ=1)(t0:f0.type=tQ)(t1:f1.type=tQ)(o0:f0.offset=0)(o1:f1.offset=1)
 (h:DataW.trod enc P w base spare held fuel tS cs=some x):
 ∃s t:ByteArray,cs= [.string s,.string t]/\x.1=.agg [.lit (.string s.data.toList),.lit (.string t.data.toList)]/\x.2= []:=by
 obtain⟨xs,n,rfl,rfl,hl,hxl,hf⟩:=DataW.trod_struct uS h;rw[cS] at hl;clear h;have h0:=hf 0 f0 rfl;have h1:=hf 1 f1 rfl;rw[t0,o0,cQ] at h0;rw[t1,o1,cQ] at h1;clear hf
 match cs,hl,xs,hxl with
 | [v0,v1],_,[y0,y1],_=>
   simp only[List.drop_zero,List.drop_succ_cons,List.take_succ_cons,List.take_zero,List.getElem?_cons_zero,List.getElem?_cons_succ] at h0 h1;obtain⟨s,e0,rfl,_⟩:=DataW.trod_string uQ h0;obtain⟨t,e1,rfl,_⟩:=DataW.trod_string uQ h1;obtain rfl:v0=_:=by simpa using e0
   obtain rfl:v1=_:=by simpa using e1
   exact⟨s,t,rfl,rfl,rfl⟩
end
end Go.Proofs.YtfpcipgoedifaaaGreatDoor
namespace Go.Proofs.YtfpcipgoedifaaaGreatDoor
open Go.ChangeShapes Go.WideShapes Go.ChangeAt Go.RowKit
set_option linter.unusedVariables false
set_option linter.unusedSimpArgs false
theorem own:ownKnob Tryz.prog.godebug=none:=by kernel_rfl
theorem Qf5:laidOutB Tryz.prog=true:=by kernel_rfl
theorem Qf6{H:Type}{d:DataW H}{l:List (DataW H)}(h:d∈ l):Rows.uptoBulk d<=Rows.uptoBulkAll l:=by
 induction l with
 |nil=>cases h
 |cons x r ih=>
  simp only[Rows.uptoBulkAll];rcases List.mem_cons.1 h with rfl|h
  · omega
  · have:=ih h;omega
theorem Qs9{H:Type}(l r:List (DataW H)):Rows.uptoBulkAll l<=Rows.uptoBulk (.slice l r):=by
 simp only[Rows.uptoBulk];omega
theorem Qkp{P:Program}{W:World}{x:String × DataW Unit}{l:List (String × DataW Unit)}(h:laidMet P (x :: l) W):laidMet P l W:=by
 obtain⟨ps,⟨g,t,cs,fuel,p,q,_,_,_,_,hl,rfl⟩,hn,hc⟩:=h;exact⟨q,hl,(List.nodup_append.1 hn).2.1,fun b off hm=>hc b off (List.mem_append.2 (.inr hm))⟩
theorem gTen:Tryz.prog.globalNamed "internal/strconv.uint64pow10" =some 5:=by kernel_rfl
theorem Qta:(Tryz.prog.globals[5]?).map (·.type)=some 239:=by kernel_rfl
theorem Qtb:Tryz.prog.cellsOf 239=20:=by kernel_rfl
theorem Qtc:Tryz.prog.cellsOf 123=1:=by kernel_rfl
theorem Qtd:(Rows.laid_internal_strconv_uint64pow10:DataW Unit)=Lib.tabData .u64 Lib.pow10Tab:=by kernel_rfl
theorem Qte{W:World}{rest:List (String × DataW Unit)}(h:laidMet Tryz.prog (("internal/strconv.uint64pow10",Rows.laid_internal_strconv_uint64pow10) :: rest) W):Tab W:=by
 rw[Qtd] at h;exact Lib.tabIs_of_head gTen Qta Tryz.underlying239 Tryz.underlying123 Qtc Qtb h
theorem Qtf{W:World}(h:W.ShapedOpen Tryz.prog):∃m,W.cell? ⟨0,0,none⟩=some (.int .i64 m):=
 cell_of_shapedOpen_int (zero:=#[.int .i64 0]) (t:=3) h (of_decide_eq_true (by kernel_rfl)) (by kernel_rfl) rfl (by kernel_rfl) (by kernel_rfl) Tryz.underlying3
def flat1:DataW Unit->List Value
 | .lit (.int k z)=>[.int k z]
 | .lit (.string bs)=>[.string ⟨bs.toArray⟩]
 |_=>[]
def flat2:DataW Unit->List Value
 | .agg ps=>ps.flatMap flat1
 |d=>flat1 d
def flat3:DataW Unit->List Value
 | .agg ps=>ps.flatMap flat2
 |d=>flat1 d
def put(g:Nat)(d:DataW Unit)(w:World):World:={ w with heap:=w.heap.modify g fun
 | .cells _ t frozen=>.cells (flat3 d).toArray t frozen
 |o=>o }
end Go.Proofs.YtfpcipgoedifaaaGreatDoor
namespace Go.Proofs.YtfpcipgoedifaaaGreatDoor
open Go.RowKit
set_option linter.unusedVariables false
set_option linter.unusedSimpArgs false
structure CRow (w:World) (a:Option Addr) (xs:List Value):Prop where
 cell:∀j u,xs[j]?=some u->∃b off,a=some ⟨b,off,none⟩/\b<w.heap.size/\w.cell? ⟨b,off+j,none⟩=some u
theorem CRow.below{w w':World}{a:Option Addr}{xs:List Value}(h:CRow w a xs)(hb:Below w.heap.size w w'):CRow w' a xs:=by
 refine⟨fun j u hj=>?_⟩;obtain⟨b,off,h1,h2,h3⟩:=h.cell j u hj;exact⟨b,off,h1,by have:=hb.size;omega,ce hb h2 h3⟩
section
variable {P:Program} {t e:TypeId} {i:TypeInfo} {size:Nat}
theorem Qbp{ops:Array Oper}{o:Oper}{a:Act}{w:World}{K:Act->World->Prop}{Q:Exit->Act->World->Prop}{E:Prop}
 (hg:o.guard=none) (s x:Operand) (hop:o.op=Op.call { callee:=Callee.builtin Builtin.append,args:=#[s,x],argTypes:=#[t,t] })
 {vs vx v:Value} {w':World} (hs:a.eval s=vs) (hx:a.eval x=vx) (hrun:(Builtin.append_ #[t,t] o.type #[vs,vx]).run P w=.ok v w') (hK:K (a.put o.dst v) w'):
 if Region.wanted o (yielded ops a.tmps)=true then Oper.wp P o a w K Q else E:=by
 have hw:Region.wanted o (yielded ops a.tmps)=true:=by simp[Region.wanted,hg]
 rw[if_pos hw];unfold Oper.wp;simp[execOp,hop,resolve,invoke,builtin,hs,hx,hrun,Result.andThen];exact hK
end
def appR(P:Program)(t ty:TypeId)(vs vx:Value)(w:World):Result Value:=(Builtin.append_ #[t,t] ty #[vs,vx]).run P w
@[go_sem ↓] theorem Qvv (ρ:Operand->Value) (dst:Option Tmp) (x y:Operand) (t ty:TypeId) (pos:String) (after:Array Go.Edge) (guard:Option (Nat × Bool)) (w:World):
   (execOp ρ { dst,op:=.call { callee:=.builtin .append,args:=#[x,y],argTypes:=#[t,t] },type:=ty,pos,after,guard }).run Tryz.prog w=(appR Tryz.prog t ty (ρ x) (ρ y) w).andThen (fun v w'=>.ok (.value v) w'):=by
  have e:(#[x,y]:Array Operand).map ρ=#[ρ x,ρ y]:=by simp
  rw[BigFrame.execOp_builtin,BigFrame.builtin_append,e,Sem.run_bind]
  unfold appR
  simp only[Sem.run_pure]
theorem Qvr:(Tryz.prog.info? 40).map (fun i=>(i.zero,i.size,i.bytes))=some (some (.string ⟨#[]⟩),1,16):=by kernel_rfl
def textsV(ss:List ByteArray):List Value:=ss.map Value.string
theorem Qvs(n:Nat):madeCells (Value.cells (.string ⟨#[]⟩)) n=(textsV (List.replicate n ⟨#[]⟩)).toArray:=by
 have e:Value.cells (.string ⟨#[]⟩)=#[.string ⟨#[]⟩]:=by rfl
 rw[e];apply Array.ext';rw[toList_madeCells_one];simp[textsV]
theorem Qvt(n:Nat)(hn:n<=1048576)(w:World):(Instr.makeSlice 27 (.int .i64 n) (.int .i64 n)).run Tryz.prog w=.ok (.slice (some ⟨w.heap.size,0,.none⟩) n n) (w.alloc (.cells (textsV (List.replicate n ⟨#[]⟩)).toArray 40)):=by
 obtain⟨i,hi,h⟩:=Option.map_eq_some_iff.1 Qvr;simp only[Prod.mk.injEq] at h;obtain⟨hz,hs,hb⟩:=h;have:=run_make w 27 40 i _ Tryz.underlying27 hi hz .i64 .i64 n n (by omega) (by omega) (by rw[hb];omega) (by omega);rw[Int.toNat_natCast,hs,Nat.mul_one,Qvs] at this;exact this
theorem Qvu(ss:List ByteArray)(k:Nat)(s:ByteArray):textsV (ss.set k s)=(textsV ss).set k (.string s):=by simp[textsV]
structure S2 where
 x:ByteArray
 y:ByteArray
structure B6 where
 a:Int
 b:Int
 c:ByteArray
 e:ByteArray
 l:ByteArray
 m:ByteArray
structure H3 where
 j:Int
 w:Int
 q:ByteArray
structure L3 where
 j:Int
 x:ByteArray
 y:ByteArray
def S2.cells(s:S2):List Value:=[.string s.x,.string s.y]
def B6.cells(s:B6):List Value:=[.int .i64 s.a,.int .i64 s.b,.string s.c,.string s.e,.string s.l,.string s.m]
def H3.cells(s:H3):List Value:=[.int .i64 s.j,.int .i64 s.w,.string s.q]
def L3.cells(s:L3):List Value:=[.int .i64 s.j,.string s.x,.string s.y]
structure ARow {α:Type} (c:α->List Value) (w:World) (a:Option Addr) (cap:Nat) (es:List α):Prop where
 fit:es.length<=cap
 row:CRow w a (es.flatMap c)
section
variable {α:Type} {c:α->List Value} {sz:Nat}
theorem ARow.below{w w':World}{a:Option Addr}{cap:Nat}{es:List α}(h:ARow c w a cap es)(hb:Below w.heap.size w w'):ARow c w' a cap es:=⟨h.fit,h.row.below hb⟩
theorem Qcg(hc:∀e,(c e).length=sz)(es:List α):(es.flatMap c).length=es.length*sz:=by
 induction es with
 |nil=>simp
 |cons e l ih=>rw[List.flatMap_cons,List.length_append,ih,hc,List.length_cons,Nat.succ_mul];omega
theorem Qb2(hc:∀e,(c e).length=sz):∀(es:List α) (i:Nat) (e:α) (j:Nat) (u:Value),es[i]?=some e->(c e)[j]?=some u->(es.flatMap c)[i*sz+j]?=some u
 | [],i,e,j,u,h,_=>by simp at h
 |g :: l,0,e,j,u,h,hj=>by
  obtain rfl:g=e:=by simpa using h
  rw[List.flatMap_cons,Nat.zero_mul,Nat.zero_add,List.getElem?_append_left (gZ hj).1];exact hj
 |g :: l,i+1,e,j,u,h,hj=>by
  have:=Qb2 hc l i e j u (by simpa using h) hj;rw[List.flatMap_cons,List.getElem?_append_right (by rw[hc,Nat.succ_mul];omega),hc,show (i+1)*sz+j - sz=i*sz+j by rw[Nat.succ_mul];omega];exact this
theorem ARow.at(hc:∀e,(c e).length=sz)(h0:0<sz){w:World}{a:Option Addr}{cap:Nat}{es:List α}(h:ARow c w a cap es){i:Nat}{e:α}(hi:es[i]?=some e):
 ∃b off,a=some ⟨b,off,none⟩/\b<w.heap.size/\∀j u,(c e)[j]?=some u->w.cell? ⟨b,off+i*sz+j,none⟩=some u:=by
 have h1:∃u,(c e)[0]?=some u:=⟨_,gE (by rw[hc];exact h0)⟩;obtain⟨u,hu⟩:=h1;obtain⟨b,off,ha,hb,_⟩:=h.row.cell _ _ (Qb2 hc es i e 0 u hi hu);refine⟨b,off,ha,hb,fun j v hv=>?_⟩;obtain⟨b',off',ha',_,hcell⟩:=h.row.cell _ _ (Qb2 hc es i e j v hi hv);rw[ha] at ha';cases ha';rw[Nat.add_assoc];exact hcell
end
theorem ARow.spot{w:World}{a:Option Addr}{cap:Nat}{es:List S2}(h:ARow S2.cells w a cap es){i:Nat}{e:S2}(hi:es[i]?=some e):
 ∃b off,a=some ⟨b,off,none⟩/\b<w.heap.size/\w.cell? ⟨b,off+i*2,none⟩=some (.string e.x)/\w.cell? ⟨b,off+i*2+1,none⟩=some (.string e.y):=by
 obtain⟨b,off,h1,h2,h3⟩:=h.at (sz:=2) (fun _=>rfl) (by decide) hi;exact⟨b,off,h1,h2,h3 0 _ rfl,h3 1 _ rfl⟩
theorem ARow.bar{w:World}{a:Option Addr}{cap:Nat}{es:List B6}(h:ARow B6.cells w a cap es){i:Nat}{e:B6}(hi:es[i]?=some e):
 ∃b off,a=some ⟨b,off,none⟩/\b<w.heap.size/\w.cell? ⟨b,off+i*6,none⟩=some (.int .i64 e.a)/\w.cell? ⟨b,off+i*6+1,none⟩=some (.int .i64 e.b)/\w.cell? ⟨b,off+i*6+2,none⟩=some (.string e.c)/\w.cell? ⟨b,off+i*6+3,none⟩=some (.string e.e)/\w.cell? ⟨b,off+i*6+4,none⟩=some (.string e.l)/\w.cell? ⟨b,off+i*6+5,none⟩=some (.string e.m):=by
 obtain⟨b,off,h1,h2,h3⟩:=h.at (sz:=6) (fun _=>rfl) (by decide) hi;exact⟨b,off,h1,h2,h3 0 _ rfl,h3 1 _ rfl,h3 2 _ rfl,h3 3 _ rfl,h3 4 _ rfl,h3 5 _ rfl⟩
theorem ARow.hold{w:World}{a:Option Addr}{cap:Nat}{es:List H3}(h:ARow H3.cells w a cap es){i:Nat}{e:H3}(hi:es[i]?=some e):
 ∃b off,a=some ⟨b,off,none⟩/\b<w.heap.size/\w.cell? ⟨b,off+i*3,none⟩=some (.int .i64 e.j)/\w.cell? ⟨b,off+i*3+1,none⟩=some (.int .i64 e.w)/\w.cell? ⟨b,off+i*3+2,none⟩=some (.string e.q):=by
 obtain⟨b,off,h1,h2,h3⟩:=h.at (sz:=3) (fun _=>rfl) (by decide) hi;exact⟨b,off,h1,h2,h3 0 _ rfl,h3 1 _ rfl,h3 2 _ rfl⟩
theorem ARow.load{w:World}{a:Option Addr}{cap:Nat}{es:List L3}(h:ARow L3.cells w a cap es){i:Nat}{e:L3}(hi:es[i]?=some e):
 ∃b off,a=some ⟨b,off,none⟩/\b<w.heap.size/\w.cell? ⟨b,off+i*3,none⟩=some (.int .i64 e.j)/\w.cell? ⟨b,off+i*3+1,none⟩=some (.string e.x)/\w.cell? ⟨b,off+i*3+2,none⟩=some (.string e.y):=by
 obtain⟨b,off,h1,h2,h3⟩:=h.at (sz:=3) (fun _=>rfl) (by decide) hi;exact⟨b,off,h1,h2,h3 0 _ rfl,h3 1 _ rfl,h3 2 _ rfl⟩
structure FrRow (w:World) (a1 a2 a3:Option Addr) (c1 c2 c3:Nat) (js:List S2) (bs:List B6) (hs:List H3):Prop where
 j:ARow S2.cells w a1 c1 js
 b:ARow B6.cells w a2 c2 bs
 h:ARow H3.cells w a3 c3 hs
theorem FrRow.below{w w':World}{a1 a2 a3:Option Addr}{c1 c2 c3:Nat}{js:List S2}{bs:List B6}{hs:List H3}(h:FrRow w a1 a2 a3 c1 c2 c3 js bs hs)(hb:Below w.heap.size w w'):FrRow w' a1 a2 a3 c1 c2 c3 js bs hs:=⟨h.j.below hb,h.b.below hb,h.h.below hb⟩
end Go.Proofs.YtfpcipgoedifaaaGreatDoor
