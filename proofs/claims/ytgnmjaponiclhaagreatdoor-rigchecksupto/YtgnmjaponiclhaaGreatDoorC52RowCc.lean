/- For every world that holds the tables, and every frame of bulk at most 1048576: RigChecks answers true: the statement and its card. -/
import Derived.Test.YtgnmjaponiclhaaGreatDoorC51RowCw
namespace Go.Proofs.YtgnmjaponiclhaaGreatDoor
namespace rigChecks
open Go.ChangeShapes Go.WideShapes Go.ChangeAt Go.RowKit
set_option linter.unusedVariables false
set_option linter.unusedSimpArgs false
set_option maxRecDepth 100000 in
set_option maxHeartbeats 4000000 in
theorem Qpv:joinedFacts Tryz.prog 5 Tryz.f5 (Rows.OpenSpec.upto Rows.rigChecksSpec).bare Rows.rigChecksUptoRow=true:=by
 unfold joinedFacts
 simp only[Bool.and_eq_true]
 repeat' with_reducible apply And.intro
 all_goals (as_aux_lemma=>kernel_rfl)
theorem named:Tryz.prog.funcNamed Rows.rigChecksUptoRow.func=some 5:=by kernel_rfl
theorem said:Rows.RigChecksUptoSaid:=
 OpenClaim.holds_of_cond 5 Tryz.f5 rfl rfl rfl rfl rfl rfl rfl ⟨rfl,rfl,rfl,rfl,rfl⟩ rfl rfl rfl rfl rfl named Tryz.func5 Qpv
  (of_decide_eq_true (by kernel_rfl)) (by unfold Func.isWrapper;first|(rw [if_pos (by decide +kernel)];kernel_rfl)|(rw [if_neg (by decide +kernel)];exact⟨rfl,rfl⟩))
  (fun os started H enc _ F=>by rw[OpenClaim.pre_eq_preRow];exact Qpx os started H enc F)
theorem plain(f:FuncId)(fn:Func)(hf:Tryz.pinned.checked.prog.funcNamed "rafter/rafterlaw.RigChecks" =some f)(hfn:Tryz.pinned.checked.prog.funcs[f]?=some fn):
 false=Tryz.pinned.checked.prog.looks []∧∀(j:Nat) t,fn.params[j]?=some t→Tryz.pinned.checked.prog.wantsStandIn t=false:=by
 obtain rfl:f=5:=Option.some.inj ((show Tryz.prog.funcNamed "rafter/rafterlaw.RigChecks" =some 5 by kernel_rfl).symm.trans hf) |>.symm
 obtain rfl:fn=Tryz.f5:=(Option.some.inj (Tryz.func5.symm.trans hfn)).symm
 refine⟨by kernel_rfl,fun j t ht=>?_⟩
 rw[Tryz.params5] at ht
 have:=Array.mem_of_getElem? ht
 simp only[List.mem_toArray,List.mem_cons,List.not_mem_nil,or_false] at this
 subst this
 exact(show Tryz.prog.wantsStandIn 54=false by kernel_rfl)
end rigChecks
theorem rigChecks_upto:Rows.RigChecksUptoCardSaid:=
 Claim7.holds_tied_plain_at .later [] _ _ _ _ rigChecks.said (fun _ h=>by cases h) (by kernel_rfl) (fun _ h=>by cases h) rigChecksUpto_row_tie rfl ⟨rfl,rfl⟩ (by kernel_rfl) rfl rigChecks.plain (by kernel_rfl)
end Go.Proofs.YtgnmjaponiclhaaGreatDoor
