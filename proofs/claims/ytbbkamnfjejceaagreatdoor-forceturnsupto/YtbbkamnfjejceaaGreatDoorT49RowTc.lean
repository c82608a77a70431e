/- For every world that holds the tables, and all forces and places that together are of bulk at most 1048576: ForceTurns answers true: the statement and its card. -/
import Derived.Test.YtbbkamnfjejceaaGreatDoorT48LawE
import Derived.Test.YtbbkamnfjejceaaGreatDoorRows
import Derived.Deep.Slices
import Derived.KernelRfl
import Derived.ProofKit
import Derived.OpenShut
import Derived.Carry
import Derived.Lib.LaidTab
import Derived.Shelf.LaysM
import Derived.Test.YtbbkamnfjejceaaGreatDoorCards
import Derived.Test.YtbbkamnfjejceaaGreatDoorTie
import Derived.Deep.DeepHandedRow
namespace Go.Proofs.YtbbkamnfjejceaaGreatDoor
open Go.RowKit
set_option linter.unusedVariables false
set_option linter.unusedSimpArgs false
def forceD{H:Type}(f:F4):DataW H:=.agg [.agg [.lit (.string f.ax.data.toList),.lit (.string f.ay.data.toList)],.agg [.lit (.string f.wx.data.toList),.lit (.string f.wy.data.toList)]]
theorem Qdq{H:Type}(f:F4):Rows.uptoBulk (forceD (H:=H) f)=sz f+7:=by
 have h1:f.ax.data.toList.length=f.ax.size:=by simp
 have h2:f.ay.data.toList.length=f.ay.size:=by simp
 have h3:f.wx.data.toList.length=f.wx.size:=by simp
 have h4:f.wy.data.toList.length=f.wy.size:=by simp
 simp only[forceD,Rows.uptoBulk,Rows.uptoBulkAll,h1,h2,h3,h4,sz];omega
theorem Qfm{H:Type}(m:Nat)(fs:List F4):wt m fs≤16*Rows.uptoBulkAll (fs.map (forceD (H:=H)))+fs.length*(8*m+20):=by
 induction fs with
 |nil=>simp[wt]
 |cons f l ih=>
  have:=Qdq (H:=H) f;simp only[wt,List.map_cons,Rows.uptoBulkAll,List.length_cons,Nat.add_mul,Nat.one_mul];omega
theorem Qfn{H:Type}(fs:List F4)(f:F4)(h:f∈ fs):sz f≤Rows.uptoBulkAll (fs.map (forceD (H:=H))):=by
 induction fs with
 |nil=>cases h
 |cons g l ih=>
  have:=Qdq (H:=H) g;simp only[List.map_cons,Rows.uptoBulkAll];rcases List.mem_cons.1 h with rfl|h
  · omega
  · have:=ih h;omega
theorem Sized.of_bulk{H:Type}{fs:List F4}(hb:Rows.uptoBulkAll (fs.map (forceD (H:=H)))≤1048576)(hl:fs.length≤60):Sized fs:=by
 have h0:=Qfm (H:=H) 0 fs;have h1:=Qfm (H:=H) 1048576 fs;refine⟨hl,by omega,by omega,fun f hf=>Nat.le_trans (Qfn (H:=H) fs f hf) hb⟩
theorem Qgf:Tryz.prog.cellsOf 23=1:=by kernel_rfl
theorem Qgg:Tryz.prog.cellsOf 25=2:=by kernel_rfl
section
variable {H:Type} {enc:TypeId × Value→H} {P:Program} {w:World} {base:Nat} {spare:Nat→Bool} {held:Bool} {fuel:Nat} {cs:List Value} {x:DataW H × List MemPlace} {tF tS tQ:TypeId} {f0 f1 g0 g1:Field}
theorem Qd2(uS:P.underlying tS=some (.struct #[f0,f1]))(uQ:P.underlying tQ=some .string)(cS:P.cellsOf tS=2)(cQ:P.cellsOf tQ=1)(t0:f0.type=tQ)(t1:f1.type=tQ)(o0:f0.offset=0)(o1:f1.offset=1)
 (h:DataW.trod enc P w base spare held fuel tS cs=some x):
 ∃s t:ByteArray,cs= [.string s,.string t]∧x.1=.agg [.lit (.string s.data.toList),.lit (.string t.data.toList)]∧x.2= []:=by
 obtain⟨xs,n,rfl,rfl,hl,hxl,hf⟩:=DataW.trod_struct uS h;rw[cS] at hl;clear h;have h0:=hf 0 f0 rfl;have h1:=hf 1 f1 rfl;rw[t0,o0,cQ] at h0;rw[t1,o1,cQ] at h1;clear hf
 match cs,hl,xs,hxl with
 | [v0,v1],_,[y0,y1],_=>
   simp only[List.drop_zero,List.drop_succ_cons,List.take_succ_cons,List.take_zero,List.getElem?_cons_zero,List.getElem?_cons_succ] at h0 h1;obtain⟨s,e0,rfl,_⟩:=DataW.trod_string uQ h0;obtain⟨t,e1,rfl,_⟩:=DataW.trod_string uQ h1;obtain rfl:v0=_:=by simpa using e0
   obtain rfl:v1=_:=by simpa using e1
   exact⟨s,t,rfl,rfl,rfl⟩
end
theorem Qkc:Tryz.prog.cellsOf 29=4:=by kernel_rfl
section
variable {H:Type} {enc:TypeId × Value→H} {P:Program} {w:World} {base:Nat} {spare:Nat→Bool} {held:Bool} {fuel:Nat} {cs:List Value} {x:DataW H × List MemPlace} {tF tS tQ:TypeId} {f0 f1 g0 g1:Field}
theorem Qkd(uF:P.underlying tF=some (.struct #[g0,g1]))(uS:P.underlying tS=some (.struct #[f0,f1]))(uQ:P.underlying tQ=some .string)(cF:P.cellsOf tF=4)(cS:P.cellsOf tS=2)(cQ:P.cellsOf tQ=1)
 (t0:f0.type=tQ) (t1:f1.type=tQ) (o0:f0.offset=0) (o1:f1.offset=1) (k0:g0.type=tS) (k1:g1.type=tS) (p0:g0.offset=0) (p1:g1.offset=2)
 (h:DataW.trod enc P w base spare held fuel tF cs=some x):
 ∃f:F4,cs= [.string f.ax,.string f.ay,.string f.wx,.string f.wy]∧x.1=forceD f∧x.2= []:=by
 obtain⟨xs,n,rfl,rfl,hl,hxl,hf⟩:=DataW.trod_struct uF h;rw[cF] at hl;clear h;have h0:=hf 0 g0 rfl;have h1:=hf 1 g1 rfl;rw[k0,p0,cS] at h0;rw[k1,p1,cS] at h1;clear hf
 match cs,hl,xs,hxl with
 | [v0,v1,v2,v3],_,[y0,y1],_=>
   simp only[List.drop_zero,List.drop_succ_cons,List.take_succ_cons,List.take_zero,List.getElem?_cons_zero,List.getElem?_cons_succ] at h0 h1;obtain⟨s,t,e0,d0,q0⟩:=Qd2 uS uQ cS cQ t0 t1 o0 o1 h0;obtain⟨s',t',e1,d1,q1⟩:=Qd2 uS uQ cS cQ t0 t1 o0 o1 h1;obtain⟨rfl,rfl⟩:v0=_∧v1=_:=by simpa using e0
   obtain⟨rfl,rfl⟩:v2=_∧v3=_:=by simpa using e1
   exact⟨⟨s,t,s',t'⟩,rfl,by simp[forceD,d0,d1],by simp[q0,q1]⟩
theorem Qke{t:TypeId}(ut:P.underlying t=some (.slice tF))(uF:P.underlying tF=some (.struct #[g0,g1]))(uS:P.underlying tS=some (.struct #[f0,f1]))(uQ:P.underlying tQ=some .string)(cF:P.cellsOf tF=4)(cS:P.cellsOf tS=2)(cQ:P.cellsOf tQ=1)
 (t0:f0.type=tQ) (t1:f1.type=tQ) (o0:f0.offset=0) (o1:f1.offset=1) (k0:g0.type=tS) (k1:g1.type=tS) (p0:g0.offset=0) (p1:g1.offset=2)
 (h:DataW.trod enc P w base spare held fuel t cs=some x):
 ∃(a:Option Addr) (cap:Nat) (fs:List F4),cs= [.slice a fs.length cap]∧FRow w a cap fs∧(∀l r,x.1=.slice l r→l=fs.map forceD)∧((fs= []∧x.1=.nil)∨∃l r,x.1=.slice l r):=by
 rcases Deep.open_slice ut h with ⟨rfl,rfl⟩|⟨a,len,cap,m,n,D,Pl,rfl,hb,hlc,hcm,hm,rfl,hD⟩
 · exact⟨none,0,[],rfl,⟨by simp,fun i f hi=>by simp at hi⟩,fun l r e=>by simp at e,.inl ⟨rfl,rfl⟩⟩
 have hlm:len≤m:=by rw[hm];split<;>omega
 have each:∀i,∃f:F4,i<len→w.cells? base (a.add (i*4)) 4=some [.string f.ax,.string f.ay,.string f.wx,.string f.wy]∧D i=forceD f:=by
  intro i;by_cases hi:i<len
  ·
   obtain⟨cs',h1,h2⟩:=hD i (by omega);obtain⟨f,rfl,hd,_⟩:=Qkd uF uS uQ cF cS cQ t0 t1 o0 o1 k0 k1 p0 p1 h2;rw[cF] at h1;exact⟨f,fun _=>⟨h1,hd⟩⟩
  · exact⟨⟨⟨#[]⟩,⟨#[]⟩,⟨#[]⟩,⟨#[]⟩⟩,fun h=>absurd h hi⟩
 obtain⟨F,hF⟩:=Classical.axiomOfChoice each;refine⟨some a,cap,(List.range len).map F,by simp,⟨by simpa using hlc,?_⟩,?_,.inr ⟨_,_,rfl⟩⟩
 ·
  intro i f hi;have hil:i<len:=by
   have:=List.getElem?_eq_some_iff.1 hi;obtain⟨h,_⟩:=this
   simpa using h
  obtain rfl:F i=f:=by simpa [hil] using hi
  obtain⟨hc,_⟩:=hF i hil;obtain⟨_,_,hcell⟩:=World.cells?_some hc;obtain⟨b,off,sp⟩:=a;have c0:=hcell 0 (by omega);have c1:=hcell 1 (by omega);have c2:=hcell 2 (by omega);have c3:=hcell 3 (by omega);have z:=(World.cells?_some (hF 0 (by omega)).1).2.2 0 (by omega);have hsp:sp=none:=by
   cases sp with
   |none=>rfl
   |some v=>
    exfalso
    simp only[Nat.zero_mul,Addr.add,if_true,World.cell?,List.getElem?_cons_zero] at z
    split at z<;>simp at z
  subst hsp;have ea:∀j k,(Addr.add ⟨b,off,none⟩ j).add k=⟨b,off+j+k,none⟩:=by
   intro j k;unfold Addr.add;by_cases hj:j=0<;>by_cases hk:k=0<;>simp[hj,hk]
  rw[ea] at c0 c1 c2 c3;simp only[List.getElem?_cons_zero,List.getElem?_cons_succ,Nat.add_zero] at c0 c1 c2 c3;exact⟨b,off,rfl,World.block_lt_of_cell? _ _ c0,c0,c1,c2,c3⟩
 ·
  intro l r e;have e1:(List.range len).map D=l:=by simpa using (DataW.slice.inj e).1
  rw[←e1,List.map_map];refine List.map_congr_left fun i hi=>?_
  exact(hF i (by simpa using hi)).2
end
end Go.Proofs.YtbbkamnfjejceaaGreatDoor
namespace Go.Proofs.YtbbkamnfjejceaaGreatDoor
open Go.ChangeShapes Go.WideShapes Go.ChangeAt Go.RowKit
set_option linter.unusedVariables false
set_option linter.unusedSimpArgs false
theorem own:ownKnob Tryz.prog.godebug=none:=by kernel_rfl
theorem Qd4:laidOutB Tryz.prog=true:=by kernel_rfl
theorem Qd5{H:Type}{d:DataW H}{l:List (DataW H)}(h:d∈ l):Rows.uptoBulk d≤Rows.uptoBulkAll l:=by
 induction l with
 |nil=>cases h
 |cons x r ih=>
  simp only[Rows.uptoBulkAll];rcases List.mem_cons.1 h with rfl|h
  · omega
  · have:=ih h;omega
theorem Qmr{H:Type}(l r:List (DataW H)):Rows.uptoBulkAll l≤Rows.uptoBulk (.slice l r):=by
 simp only[Rows.uptoBulk];omega
theorem Qgt{P:Program}{W:World}{x:String × DataW Unit}{l:List (String × DataW Unit)}(h:laidMet P (x :: l) W):laidMet P l W:=by
 obtain⟨ps,⟨g,t,cs,fuel,p,q,_,_,_,_,hl,rfl⟩,hn,hc⟩:=h;exact⟨q,hl,(List.nodup_append.1 hn).2.1,fun b off hm=>hc b off (List.mem_append.2 (.inr hm))⟩
theorem gTen:Tryz.prog.globalNamed "internal/strconv.uint64pow10" =some 9:=by kernel_rfl
theorem Qms:(Tryz.prog.globals[9]?).map (·.type)=some 293:=by kernel_rfl
theorem Qmt:Tryz.prog.cellsOf 293=20:=by kernel_rfl
theorem Qmu:Tryz.prog.cellsOf 146=1:=by kernel_rfl
theorem Qmv:(Rows.laid_internal_strconv_uint64pow10:DataW Unit)=Lib.tabData .u64 Lib.pow10Tab:=by kernel_rfl
theorem Qmw{W:World}{rest:List (String × DataW Unit)}(h:laidMet Tryz.prog (("internal/strconv.uint64pow10",Rows.laid_internal_strconv_uint64pow10) :: rest) W):Tab W:=by
 rw[Qmv] at h;exact Lib.tabIs_of_head gTen Qms Tryz.underlying293 Tryz.underlying146 Qmu Qmt h
theorem Qmx{W:World}(h:W.ShapedOpen Tryz.prog):∃m,W.cell? ⟨4,0,none⟩=some (.int .i64 m):=
 cell_of_shapedOpen_int (zero:=#[.int .i64 0]) (t:=3) h (of_decide_eq_true (by kernel_rfl)) (by kernel_rfl) rfl (by kernel_rfl) (by kernel_rfl) Tryz.underlying3
def flat1:DataW Unit→List Value
 | .lit (.int k z)=>[.int k z]
 | .lit (.string bs)=>[.string ⟨bs.toArray⟩]
 |_=>[]
def flat2:DataW Unit→List Value
 | .agg ps=>ps.flatMap flat1
 |d=>flat1 d
def flat3:DataW Unit→List Value
 | .agg ps=>ps.flatMap flat2
 |d=>flat1 d
def put(g:Nat)(d:DataW Unit)(w:World):World:={ w with heap:=w.heap.modify g fun
 | .cells _ t frozen=>.cells (flat3 d).toArray t frozen
 |o=>o }
theorem Qgu:Tryz.prog.readableRec 22=true:=by kernel_rfl
theorem Qmy:Tryz.prog.readableRec 25=true:=by kernel_rfl
theorem manyTypes:22<Tryz.prog.types.size∧25<Tryz.prog.types.size:=by constructor<;>(refine of_decide_eq_true ?_;kernel_rfl)
theorem Qmz{H:Type}(fs:List F4):7*fs.length≤Rows.uptoBulkAll (fs.map (forceD (H:=H))):=by
 induction fs with
 |nil=>simp[Rows.uptoBulkAll]
 |cons f l ih=>
  have:=Qdq (H:=H) f;simp only[List.map_cons,Rows.uptoBulkAll,List.length_cons];omega
section
variable {H:Type} {enc:TypeId × Value→H} {W:World}
theorem Qgv{a:Option Addr}{len cap:Nat}{d:DataW H}{ps:List MemPlace}(hb:Rows.uptoBulk d≤1048576)
 (h:DataW.Trod enc Tryz.prog W 0 (fun _=>true) true 22 (.slice a len cap) d ps):
 ∃fs:List F4,len=fs.length∧FRow W a cap fs∧(fs.length≤60→Sized fs)∧fs.length≤1048576∧∀f,f∈ fs→sz f≤1048576:=by
 obtain⟨fuel,h⟩:=h;obtain⟨a',cap',fs,e,hr,hl,hs⟩:=Qke Tryz.underlying22 Tryz.underlying29 Tryz.underlying25 Tryz.underlying23 Qkc Qgg Qgf rfl rfl rfl rfl rfl rfl rfl rfl h;have e': [Value.slice a len cap]= [Value.slice a' fs.length cap']:=e;simp only[List.cons.injEq,and_true,Value.slice.injEq] at e';obtain⟨rfl,rfl,rfl⟩:=e';have hall:Rows.uptoBulkAll (fs.map (forceD (H:=H)))≤1048576:=by
  rcases hs with ⟨rfl,_⟩|⟨l,r,hd⟩
  · simp[Rows.uptoBulkAll]
  ·
   have:=hl l r hd;simp only at hd;subst hd;rw[←this];exact Nat.le_trans (Qmr l r) hb
 have hc:=Qmz (H:=H) fs;exact⟨fs,rfl,hr,fun h60=>Sized.of_bulk hall h60,by omega,fun f hf=>Nat.le_trans (Qfn (H:=H) fs f hf) hall⟩
theorem Qm0{cs:Array Value}{d:DataW H}{ps:List MemPlace}(hb:Rows.uptoBulk d≤1048576)
 (h:DataW.Trod enc Tryz.prog W 0 (fun _=>true) true 25 (.agg cs) d ps):
 ∃s t:ByteArray,cs=#[.string s,.string t]∧s.size≤1048576∧t.size≤1048576:=by
 obtain⟨fuel,h⟩:=h;obtain⟨s,t,e,hd,_⟩:=Qd2 Tryz.underlying25 Tryz.underlying23 Qgg Qgf rfl rfl rfl rfl h;simp only at hd;subst hd;have e':cs.toList= [.string s,.string t]:=e;refine⟨s,t,by rw[←Array.toArray_toList (xs:=cs),e'],?_,?_⟩
 ·
  simp[Rows.uptoBulk,Rows.uptoBulkAll] at hb;have:s.data.toList.length=s.size:=by simp
  omega
 ·
  simp[Rows.uptoBulk,Rows.uptoBulkAll] at hb;have:t.data.toList.length=t.size:=by simp
  omega
end
def tabled(w:World):World:=
 put 10 Rows.laid_math_bits_deBruijn32tab (put 11 Rows.laid_math_bits_deBruijn64tab (put 9 Rows.laid_internal_strconv_uint64pow10
  (put 6 Rows.laid_unicode_utf8_acceptRanges (put 5 Rows.laid_unicode_utf8_first (put 0 Rows.laid_rafter_raftersame_Force w)))))
end Go.Proofs.YtbbkamnfjejceaaGreatDoor
namespace Go.Proofs.YtbbkamnfjejceaaGreatDoor
namespace forceTurns
open Go.ChangeShapes Go.WideShapes Go.ChangeAt Go.RowKit
set_option linter.unusedVariables false
set_option linter.unusedSimpArgs false
set_option maxRecDepth 100000 in
set_option maxHeartbeats 1000000 in
theorem Qm1(H:Type)(enc:TypeId × Value→H)(W:World)(base:Nat)(args:Array Value)(ds gs:List (DataW H))(before:List MemPlace)
 (hval:∀(j:Nat) t v,Tryz.f4.params[j]?=some t→args[j]?=some v→Value.okWide Tryz.prog W .any base t v)
 (hW:DataW.Whole enc Tryz.prog Tryz.f4.params.toList Rows.forceTurnsSpec.vars false W args.toList ds gs before) (hk:Rows.uptoSmall H (ds++gs)=true) (hG:Glob W):
 Calls Tryz.prog 4 args W fun e W'=>∃v,e=.returned v∧Rows.forceTurnsSpec.post enc Tryz.prog Tryz.f4 false true false false W args v W':=by
 have hW':=hW;obtain⟨p,q,hA0,hV,rfl,hfz,hnd⟩:=hW;have hA:DataW.TrodAll enc Tryz.prog W 0 (fun _=>true) true Tryz.f4.params.toList args.toList ds p:=hA0;rw[Tryz.params4] at hA hval;obtain⟨v0,v1,v2,d0,d1,d2,p0,p1,p2,rfl,rfl,rfl,h0,h1,h2⟩:=trodAll_three hA;obtain⟨rfl,rfl⟩:=trodVars_none hV;clear hA0;obtain⟨a0,l0,c0,rfl⟩:=okWide_slice Tryz.underlying22 (hval 0 22 v0 rfl rfl);obtain⟨a1,l1,c1,rfl⟩:=okWide_slice Tryz.underlying22 (hval 1 22 v1 rfl rfl);obtain⟨cs,rfl,hcs⟩:=okWide_struct Tryz.underlying25 (hval 2 25 v2 rfl rfl);unfold Rows.uptoSmall at hk;have hb:=of_decide_eq_true hk;rw[List.append_nil] at hb;obtain⟨fs,rfl,hf,hs,_,_⟩:=Qgv (Nat.le_trans (Qd5 (by simp)) hb) h0;obtain⟨gs',rfl,hf2,hs2,_,_⟩:=Qgv (Nat.le_trans (Qd5 (by simp)) hb) h1;obtain⟨sx,sy,rfl,hx,hy⟩:=Qm0 (Nat.le_trans (Qd5 (by simp)) hb) h2;have hlt:∀x∈ p0++p1++p2++ [],x.block<W.heap.size:=fun x hx=>hW'.lt x hx
 refine(Qkb a0 a1 c0 c1 fs gs' sx sy W hG hf hf2 hs hs2 hx hy).mono ?_;rintro e W' ⟨rfl,hbel⟩;refine⟨_,rfl,[d0,d1,d2],[],p0++p1++p2++ [],[],p0++(p1++(p2++ [])),[],hW',trodAll_cons_mk (shut_bool Tryz.underlying4 _) trodAll_mk0,?_,rfl,hbel.frame _,fun h=>by cases h⟩
 show DataW.TrodAll enc Tryz.prog W' 0 (fun b=>decide (b<W.heap.size)) true Tryz.f4.params.toList _ [d0,d1,d2] _
 rw[Tryz.params4];exact trodAll_cons_mk (Below.trod Qd4 Qgu manyTypes.1 h0 hbel (fun x hx=>hlt x (by simp[hx])))
  (trodAll_cons_mk (Below.trod Qd4 Qgu manyTypes.1 h1 hbel (fun x hx=>hlt x (by simp[hx]))) (trodAll_cons_mk (Below.trod Qd4 Qmy manyTypes.2 h2 hbel (fun x hx=>hlt x (by simp[hx]))) trodAll_mk0))
theorem glob{W:World}(hL:laidMetH Tryz.prog Rows.forceTurnsUptoRow.laid W)(hsh:W.ShapedOpen Tryz.prog):Glob W:=
 ⟨Qmx hsh,Qmw (Qgt (Qgt (show laidMet Tryz.prog Rows.forceTurnsUptoRow.laid W from hL)))⟩
end forceTurns
namespace forceTurns
open Go.ChangeShapes Go.WideShapes Go.ChangeAt Go.RowKit
set_option linter.unusedVariables false
set_option linter.unusedSimpArgs false
theorem Qm3(os:Os):laidMet Tryz.prog Rows.forceTurnsUptoRow.laid ((tabled (World.holding Tryz.prog os ⟨#[],#[],[]⟩)).forCall (fun _ _=>0) ⟨#[],#[.slice none 0 0,.slice none 0 0,.agg #[.string ⟨#[]⟩,.string ⟨#[]⟩]],[]⟩).memory:=
 laidMet_of_run' 8 (by kernel_rfl) (by kernel_rfl)
theorem reads(os:Os){H:Type}(enc:TypeId × Value→H):∃places,DataW.whole enc Tryz.prog ((tabled (World.holding Tryz.prog os ⟨#[],#[],[]⟩)).forCall (fun _ _=>0) ⟨#[],#[.slice none 0 0,.slice none 0 0,.agg #[.string ⟨#[]⟩,.string ⟨#[]⟩]],[]⟩).memory Tryz.f4.params.toList Rows.forceTurnsSpec.vars false #[Value.slice none 0 0,.slice none 0 0,.agg #[.string ⟨#[]⟩,.string ⟨#[]⟩]].toList 8=some ([.nil,.nil,.agg [.lit (.string []),.lit (.string [])]],[],places):=
 ⟨[],by kernel_rfl⟩
set_option maxRecDepth 100000 in
theorem Qm4(os:Os)(started:os.Started)(H:Type)(enc:TypeId × Value→H)(F:Stop.Interp):
 ReturnsInHanded {} Tryz.checked os 4 .any ((Rows.OpenSpec.upto Rows.forceTurnsSpec).preRow enc Tryz.prog Tryz.f4 Rows.forceTurnsUptoRow.domain false Rows.forceTurnsUptoRow.laid) (((Rows.OpenSpec.upto Rows.forceTurnsSpec).at F).post enc Tryz.prog Tryz.f4 false true false false):=by
 obtain⟨places,hx⟩:=reads os enc;refine returnsInHanded_of_row (C:=Tryz.checked) (s:=Rows.OpenSpec.upto Rows.forceTurnsSpec) own started (by kernel_rfl) Tryz.func4
  (witness_row_at (enc:=enc) (C:=Tryz.checked) false (tabled (World.holding Tryz.prog os ⟨#[],#[],[]⟩)) #[.slice none 0 0,.slice none 0 0,.agg #[.string ⟨#[]⟩,.string ⟨#[]⟩]] rfl (by kernel_rfl) (by kernel_rfl) (by kernel_rfl)
    (OpenSpec.preRow_of_cond 8 hx (by kernel_rfl) (fun k hk=>by cases hk;kernel_rfl) (by kernel_rfl) (Qm3 os))) ?_
 intro W base args ds gs before hval hW _ hcond _ hL hsh _;exact Qm1 H enc W base args ds gs before hval hW (hcond _ rfl) (glob hL hsh)
end forceTurns
namespace forceTurns
open Go.ChangeShapes Go.WideShapes Go.ChangeAt Go.RowKit
set_option linter.unusedVariables false
set_option linter.unusedSimpArgs false
set_option maxRecDepth 100000 in
set_option maxHeartbeats 4000000 in
theorem Qm2:joinedFacts Tryz.prog 4 Tryz.f4 (Rows.OpenSpec.upto Rows.forceTurnsSpec).bare Rows.forceTurnsUptoRow=true:=by
 unfold joinedFacts;simp only[Bool.and_eq_true]
 repeat' with_reducible apply And.intro
 all_goals (as_aux_lemma=>kernel_rfl)
theorem named:Tryz.prog.funcNamed Rows.forceTurnsUptoRow.func=some 4:=by kernel_rfl
theorem said:Rows.ForceTurnsUptoSaid:=
 OpenClaim.holds_of_cond 4 Tryz.f4 rfl rfl rfl rfl rfl rfl rfl ⟨rfl,rfl,rfl,rfl,rfl⟩ rfl rfl rfl rfl rfl named Tryz.func4 Qm2
  (of_decide_eq_true (by kernel_rfl)) (by unfold Func.isWrapper;first|(rw [if_pos (by decide +kernel)];kernel_rfl)|(rw [if_neg (by decide +kernel)];exact⟨rfl,rfl⟩))
  (fun os started H enc _ F=>by rw[OpenClaim.pre_eq_preRow];exact Qm4 os started H enc F)
theorem plain(f:FuncId)(fn:Func)(hf:Tryz.pinned.checked.prog.funcNamed "rafter/rafterlaw.ForceTurns" =some f)(hfn:Tryz.pinned.checked.prog.funcs[f]?=some fn):
 false=Tryz.pinned.checked.prog.looks []∧∀(j:Nat) t,fn.params[j]?=some t→Tryz.pinned.checked.prog.wantsStandIn t=false:=by
 obtain rfl:f=4:=Option.some.inj ((show Tryz.prog.funcNamed "rafter/rafterlaw.ForceTurns" =some 4 by kernel_rfl).symm.trans hf) |>.symm;obtain rfl:fn=Tryz.f4:=(Option.some.inj (Tryz.func4.symm.trans hfn)).symm;refine⟨by kernel_rfl,fun j t ht=>?_⟩;rw[Tryz.params4] at ht;have:=Array.mem_of_getElem? ht;simp only[List.mem_toArray,List.mem_cons,List.not_mem_nil,or_false] at this;rcases this with rfl|rfl|rfl
 · exact(show Tryz.prog.wantsStandIn 22=false by kernel_rfl)
 · exact(show Tryz.prog.wantsStandIn 22=false by kernel_rfl)
 · exact(show Tryz.prog.wantsStandIn 25=false by kernel_rfl)
end forceTurns
theorem forceTurns_upto:Rows.ForceTurnsUptoCardSaid:=
 Claim7.holds_tied_plain_at .later [] _ _ _ _ forceTurns.said (fun _ h=>by cases h) (by kernel_rfl) (fun _ h=>by cases h) forceTurnsUpto_row_tie rfl ⟨rfl,rfl⟩ (by kernel_rfl) rfl forceTurns.plain (by kernel_rfl)
end Go.Proofs.YtbbkamnfjejceaaGreatDoor
