/- A range over a function whose rounds write into one block that was there before: the loop's law. -/
import Derived.Test.YtldjeecnapgakaaGreatDoorS37RngO
namespace Go.Proofs.YtldjeecnapgakaaGreatDoor
open Go Go.RowKit
set_option linter.unusedVariables false
structure Only2 (b c:Nat) (w w':World):Prop where
 size:w.heap.size≤w'.heap.size
 block:∀k,k<w.heap.size→k≠b→k≠c→w'.heap[k]?=w.heap[k]?
theorem Only2.of1{b c:Nat}{w w':World}(h:Only b w w'):Only2 b c w w':=⟨h.size,fun k hk h1 _=>h.block k hk h1⟩
theorem Only2.of2{b c:Nat}{w w':World}(h:Only c w w'):Only2 b c w w':=⟨h.size,fun k hk _ h2=>h.block k hk h2⟩
theorem Only2.trans{b c:Nat}{u v w:World}(h:Only2 b c u v)(k:Only2 b c v w):Only2 b c u w:=
 ⟨Nat.le_trans h.size k.size,fun j hj h1 h2=>(k.block j (Nat.lt_of_lt_of_le hj h.size) h1 h2).trans (h.block j hj h1 h2)⟩
theorem SB.only2{w w':World}{b c g:Nat}{t:TypeId}{C:Array Value}(h:SB w g t C)(k:Only2 b c w w')(h1:g≠b)(h2:g≠c):SB w' g t C:=(k.block g h.lt h1 h2).trans h
def OverR{α:Type}(R:Nat)(Env:World→Prop)(F:Fence)(n:Nat)(P:Program)(g:Nat)(lb:Array Value)(enc:α→Value)(Ok:α→World→Prop)(S Sp:List α→Prop)(B:Nat):Prop:=
 ∀(l:Nat) (J Jx:List α→World→Prop) (W:World),B≤l→(∀pre U V,J pre U→Below U.heap.size U V→J pre V)→(∀pre U,J pre U→NoC U l∧l<U.heap.size∧B≤U.heap.size∧Env U)→
  (∀pre x U,J pre U→Ok x U→YieldAt F (n - 1) P l #[enc x] U fun e V=>(e=.returned (.bool true)∧J (pre++ [x]) V∧Only2 l R U V)∨(e=.returned (.bool false)∧Jx (pre++ [x]) V))→
  J [] W→CallsIn F n P g (#[.func (.yield l) #[] #[]]++lb) W fun e V=>(∃v,e=.returned v)∧((∃xs,S xs∧J xs V)∨(∃pre,Sp pre∧Jx pre V))
def roundLeftR{α:Type}(R:Nat)(I Ix:List α→World→Prop)(xs:List α)(W:World):Exit→Act→World→Prop
 | .normal,_,V=>Only R W V∧I xs V
 | .ret,_,V=>KeepsOthers W V∧Ix xs V
 |_,_,_=>False
section
variable {F:Fence} {n:Nat} {P:Program}
theorem Qqr{α:Type}{g:Operand}{ps:Array Tmp}{assign body:Code}{Q:Exit→Act→World→Prop}{a:Act}{w:World}{R:Nat}{Env:World→Prop}
 (hro:F.round=none) (h1:1≤n) {gf:Nat} {lb:Array Value} (hg:a.eval g=.func (.func gf) #[] lb) (hF:F.fn gf) (eg:∀args w,(callFunc gf args).run P w=.ok (.enter gf args) w)
 {enc:α→Value} {Ok:α→World→Prop} {S Sp:List α→Prop} (hR:R<w.heap.size) (hseq:OverR R Env F (n - 1) P gf lb enc Ok S Sp w.heap.size) (hps:ps.size=1)
 (I Ix:List α→World→Prop) (hIw:∀pre U V,I pre U→Below U.heap.size U V→I pre V) (hIl:∀pre U l o,w.heap.size≤l→NoC U l→I pre U→I pre (U.putObj l o)) (hXl:∀pre U l o,w.heap.size≤l→NoC U l→Ix pre U→Ix pre (U.putObj l o)) (hOw:∀x U V,Ok x U→Below U.heap.size U V→Ok x V) (hOl:∀x U l o,w.heap.size≤l→NoC U l→Ok x U→Ok x (U.putObj l o))
 (hIb:∀pre U,I pre U→w.heap.size≤U.heap.size∧Env U) (h0:I [] w) (Asg:α→Act→World→Prop) (hAl:∀x a' U l o,w.heap.size≤l→NoC U l→Asg x a' U→Asg x a' (U.putObj l o))
 (hassign:∀(l:Nat) (x:α) (W:World) (K:Act→World→Prop),w.heap.size≤W.heap.size→Ok x W→(∀a' W',Below W.heap.size W W'→Asg x a' W'→K a' W')→assign.wpIn (F.inRound l) (n - 1 - 1) P (Exit.then K (fun _ _ _=>False)) { tmps:=(ps.zip #[enc x]).foldl (fun t (p,v)=>t.setIfInBounds p v) a.tmps,defers:=[] } W)
 (hbody:∀(l:Nat) (pre:List α) (x:α) (a':Act) (W:World),w.heap.size≤l→I pre W→Ok x W→Asg x a' W→body.wpIn (F.inRound l) (n - 1 - 1) P (roundLeftR R I Ix (pre++ [x]) W) a' W)
 (hdone:∀(D:Nat) (xs:List α) (W:World),w.heap.size≤D→S xs→I xs W→W.heap[D]?=some (.deferred (some []))→Q .normal { a with defers:={ target:=.collected D,args:=#[] } :: a.defers } W)
 (hstop:∀(D:Nat) (pre:List α) (W:World),w.heap.size≤D→Sp pre→Ix pre W→W.heap[D]?=some (.deferred (some []))→Code.ret.wpIn F n P Q { a with defers:={ target:=.collected D,args:=#[] } :: a.defers } W):
 (Code.rangeFunc g ps assign body).wpIn F n P Q a w:=by
 refine wpIn_rangeFunc (fun fn hfn=>?_);rw[hro];obtain⟨D,hD⟩:∃D,w.heap.size=D:=⟨_,rfl⟩;obtain⟨rc,hrc⟩:∃rc:LoopState→Option Code→Obj,rc=fun st pe=>.loop { state:=st,pending:=pe,fn,tmps:=a.tmps,params:=ps,assign,body,defers:=D }:=⟨_,rfl⟩
 obtain⟨W1,hW1⟩:∃W1,(w.alloc (.deferred (some []))).alloc (rc .ready none)=W1:=⟨_,rfl⟩;have bW1:Below w.heap.size w W1:=by rw[←hW1];exact((Below.refl _ w).alloc (Nat.le_refl _) _).alloc (by simp) _
 have sz1:W1.heap.size=D+2:=by rw[←hW1];simp[hD]
 have at1:W1.heap[D+1]?=some (rc .ready none)∧W1.heap[D]?=some (.deferred (some [])):=by
  rw[←hW1];constructor
  ·
   have:=World.alloc_heap_new (w.alloc (.deferred (some []))) (rc .ready none);rw[World.size_alloc,hD] at this;exact this
  ·
   have h2:=World.alloc_heap_new w (.deferred (some []));rw[hD] at h2;exact(Below.heap_alloc _ _ _ (by simp[hD])).trans h2
 have noC:∀(U:World) st pe,U.heap[D+1]?=some (rc st pe)→NoC U (D+1):=by
  intro U st pe hU o ho;rw[hU] at ho;cases ho;rw[hrc];rfl
 let J:List α→World→Prop:=fun pre U=>I pre U∧U.heap[D+1]?=some (rc .ready none)∧U.heap[D]?=some (.deferred (some []))
 let Jx:List α→World→Prop:=fun pre U=>Ix pre U∧U.heap[D+1]?=some (rc .done (some .ret))∧U.heap[D]?=some (.deferred (some []))
 refine⟨D+1,[{ target:=.collected D,args:=#[] }],W1,{ target:=.fn (.func gf) lb,args:=#[.func (.yield (D+1)) #[] #[]] },W1,gf,#[.func (.yield (D+1)) #[] #[]]++lb,W1,?_,?_,?_,?_,fun _=>h1,?_⟩
 ·
  have:=run_enterLoop_outer (P:=P) (w:=w) fn a.tmps ps assign body;rw[←hW1,hrc,←hD];exact this
 · simp only[resolve,hg]
   simp[go_sem]
 ·
  intro f' hf';simp[Target.leads] at hf';subst hf';exact hF
 · simp[invoke,go_sem,eg]
 ·
  have hcall:=hseq (D+1) J Jx W1 (by omega) (fun pre U V hJ hb=>⟨hIw pre U V hJ.1 hb,(hb.block _ (Array.getElem?_eq_some_iff.1 hJ.2.1).1).trans hJ.2.1,(hb.block _ (Array.getElem?_eq_some_iff.1 hJ.2.2).1).trans hJ.2.2⟩)
   (fun pre U hJ=>⟨noC U _ _ hJ.2.1,(Array.getElem?_eq_some_iff.1 hJ.2.1).1,hIb pre U hJ.1⟩) ?_ ⟨hIw [] w W1 h0 bW1,at1⟩
  ·
   refine hcall.mono ?_;rintro e V ⟨⟨v,rfl⟩,hV⟩;rcases hV with ⟨xs,hS,hI,hl,hd⟩|⟨pre,hSp,hX,hl,hd⟩
   ·
    have hl':=hl;rw[hrc] at hl';refine⟨none,_,run_endLoop (P:=P) hl' (by simp),?_⟩;exact hdone D xs _ (Nat.le_of_eq hD) hS (hIl xs V _ _ (by omega) (noC V _ _ hl) hI) ((World.putObj_heap_other (by omega)).trans hd)
   ·
    have hl':=hl;rw[hrc] at hl';refine⟨some .ret,_,run_endLoop (P:=P) hl' (by simp),?_⟩;exact hstop D pre _ (Nat.le_of_eq hD) hSp (hXl pre V _ _ (by omega) (noC V _ _ hl) hX) ((World.putObj_heap_other (by omega)).trans hd)
  ·
   rintro pre x U ⟨hI,hl,hd⟩ hok;have hl':=hl;rw[hrc] at hl';have hy:=run_yield (P:=P) (args:=#[enc x]) hl' (by simp[hps]);refine⟨fn,_,assign,body,hy,roundIn_of_wpIn hfn (hassign (D+1) x U _ (hIb pre U hI).1 hok (fun a' Ua hba hasg=>?_))⟩;have hla:Ua.heap[D+1]?=some (rc .ready none):=(hba.block _ (Array.getElem?_eq_some_iff.1 hl).1).trans hl;have hda:Ua.heap[D]?=some (.deferred (some [])):=(hba.block _ (Array.getElem?_eq_some_iff.1 hd).1).trans hd;have hlt:D+1<Ua.heap.size:=(Array.getElem?_eq_some_iff.1 hla).1;have hla':=hla;rw[hrc] at hla';obtain⟨U1,hU1⟩:∃U1,Ua.putObj (D+1) (rc .busy none)=U1:=⟨_,rfl⟩;have hbg:=run_beginRound (P:=P) hla' rfl;have eb:Ua.putObj (D+1) (.loop { state:=.busy,pending:=none,fn:=fn,tmps:=a.tmps,params:=ps,assign:=assign,body:=body,defers:=D })=U1:=by rw[←hU1,hrc]
   rw[eb] at hbg;have hl1:U1.heap[D+1]?=some (rc .busy none):=by rw[←hU1];exact World.putObj_heap_same hlt
   have hd1:U1.heap[D]?=some (.deferred (some [])):=by rw[←hU1];exact(World.putObj_heap_other (by omega)).trans hda
   have o1:Only (D+1) U U1:=by rw[←hU1];exact(Only.of_below hba).trans (Only.put _ _ _)
   have hI1:I pre U1:=by rw[←hU1];exact hIl pre Ua _ _ (by omega) (noC Ua _ _ hla) (hIw pre U Ua hI hba)
   have hok1:Ok x U1:=by rw[←hU1];exact hOl x Ua _ _ (by omega) (noC Ua _ _ hla) (hOw x U Ua hok hba)
   have has1:Asg x a' U1:=by rw[←hU1];exact hAl x a' Ua _ _ (by omega) (noC Ua _ _ hla) hasg
   refine⟨U1,hbg,?_⟩;refine wpIn_mono (hbody (D+1) pre x a' U1 (by omega) hI1 hok1 has1) ?_;rintro e a3 V hp;cases e with
   |normal=>
    obtain⟨hb,hI3⟩:=hp;have hl3:V.heap[D+1]?=some (rc .busy none):=(hb.block _ (Array.getElem?_eq_some_iff.1 hl1).1 (by omega)).trans hl1;have hd3:V.heap[D]?=some (.deferred (some [])):=(hb.block _ (Array.getElem?_eq_some_iff.1 hd1).1 (by omega)).trans hd1;have hl3':=hl3;rw[hrc] at hl3';refine⟨_,_,run_endRound (P:=P) none hl3',.inl ⟨rfl,⟨hIl _ V _ _ (by omega) (noC V _ _ hl3) hI3,?_,(World.putObj_heap_other (by omega)).trans hd3⟩,((Only2.of1 o1).trans (Only2.of2 hb)).trans (Only2.of1 (Only.put _ _ _))⟩⟩;rw[World.putObj_heap_same (Array.getElem?_eq_some_iff.1 hl3).1,hrc];rfl
   |ret=>
    obtain⟨hk,hX3⟩:=hp;have hl3:V.heap[D+1]?=some (rc .busy none):=hk.same _ _ hl1 (by rw[hrc];rfl);have hd3:V.heap[D]?=some (.deferred (some [])):=hk.same _ _ hd1 rfl;have hl3':=hl3;rw[hrc] at hl3';refine⟨_,_,run_endRound (P:=P) (some .ret) hl3',.inr ⟨rfl,hXl _ V _ _ (by omega) (noC V _ _ hl3) hX3,?_,(World.putObj_heap_other (by omega)).trans hd3⟩⟩;rw[World.putObj_heap_same (Array.getElem?_eq_some_iff.1 hl3).1,hrc];rfl
   |exit _=>exact hp.elim
   |goto _=>exact hp.elim
   |panic _=>exact hp.elim
   |outgrown=>exact hp.elim
end
end Go.Proofs.YtldjeecnapgakaaGreatDoor
