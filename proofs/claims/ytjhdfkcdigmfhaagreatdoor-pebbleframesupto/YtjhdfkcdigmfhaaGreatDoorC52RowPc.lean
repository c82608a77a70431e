/- For every world that holds the tables, and every frame of bulk at most 1048576: PebbleFrames answers true: the statement and its card. -/
import Derived.Test.YtjhdfkcdigmfhaaGreatDoorC51RowPw
namespace Go.Proofs.YtjhdfkcdigmfhaaGreatDoor
namespace pebbleFrames
open Go.ChangeShapes Go.WideShapes Go.ChangeAt Go.RowKit
set_option linter.unusedVariables false
set_option linter.unusedSimpArgs false
set_option maxRecDepth 100000 in
set_option maxHeartbeats 4000000 in
theorem Qov:joinedFacts Tryz.prog 10 Tryz.f10 (Rows.OpenSpec.upto Rows.pebbleFramesSpec).bare Rows.pebbleFramesUptoRow=true:=by
 unfold joinedFacts
 simp only[Bool.and_eq_true]
 repeat' with_reducible apply And.intro
 all_goals (as_aux_lemma=>kernel_rfl)
theorem named:Tryz.prog.funcNamed Rows.pebbleFramesUptoRow.func=some 10:=by kernel_rfl
theorem said:Rows.PebbleFramesUptoSaid:=
 OpenClaim.holds_of_cond 10 Tryz.f10 rfl rfl rfl rfl rfl rfl rfl ⟨rfl,rfl,rfl,rfl,rfl⟩ rfl rfl rfl rfl rfl named Tryz.func10 Qov
  (of_decide_eq_true (by kernel_rfl)) (by unfold Func.isWrapper;first|(rw [if_pos (by decide +kernel)];kernel_rfl)|(rw [if_neg (by decide +kernel)];exact⟨rfl,rfl⟩))
  (fun os started H enc _ F=>by rw[OpenClaim.pre_eq_preRow];exact Qox os started H enc F)
theorem plain(f:FuncId)(fn:Func)(hf:Tryz.pinned.checked.prog.funcNamed "rafter/rafterlaw.PebbleFrames" =some f)(hfn:Tryz.pinned.checked.prog.funcs[f]?=some fn):
 false=Tryz.pinned.checked.prog.looks []∧∀(j:Nat) t,fn.params[j]?=some t→Tryz.pinned.checked.prog.wantsStandIn t=false:=by
 obtain rfl:f=10:=Option.some.inj ((show Tryz.prog.funcNamed "rafter/rafterlaw.PebbleFrames" =some 10 by kernel_rfl).symm.trans hf) |>.symm
 obtain rfl:fn=Tryz.f10:=(Option.some.inj (Tryz.func10.symm.trans hfn)).symm
 refine⟨by kernel_rfl,fun j t ht=>?_⟩
 rw[Tryz.params10] at ht
 have:=Array.mem_of_getElem? ht
 simp only[List.mem_toArray,List.mem_cons,List.not_mem_nil,or_false] at this
 subst this
 exact(show Tryz.prog.wantsStandIn 54=false by kernel_rfl)
end pebbleFrames
theorem pebbleFrames_upto:Rows.PebbleFramesUptoCardSaid:=
 Claim7.holds_tied_plain_at .later [] _ _ _ _ pebbleFrames.said (fun _ h=>by cases h) (by kernel_rfl) (fun _ h=>by cases h) pebbleFramesUpto_row_tie rfl ⟨rfl,rfl⟩ (by kernel_rfl) rfl pebbleFrames.plain (by kernel_rfl)
end Go.Proofs.YtjhdfkcdigmfhaaGreatDoor
