/- PebbleFrames: a world that holds the tables, and the row over the contract. -/
import Derived.Test.YtjhdfkcdigmfhaaGreatDoorC50RowP
namespace Go.Proofs.YtjhdfkcdigmfhaaGreatDoor
namespace pebbleFrames
open Go.ChangeShapes Go.WideShapes Go.ChangeAt Go.RowKit
set_option linter.unusedVariables false
set_option linter.unusedSimpArgs false
theorem Qow(os:Os):laidMet Tryz.prog Rows.pebbleFramesUptoRow.laid ((tabledP (World.holding Tryz.prog os ⟨#[],#[],[]⟩)).forCall (fun _ _=>0) ⟨#[],#[.agg #[.slice none 0 0,.slice none 0 0,.slice none 0 0]],[]⟩).memory:=
 laidMet_of_run' 8 (by kernel_rfl) (by kernel_rfl)
theorem reads(os:Os){H:Type}(enc:TypeId × Value→H):∃places,DataW.whole enc Tryz.prog ((tabledP (World.holding Tryz.prog os ⟨#[],#[],[]⟩)).forCall (fun _ _=>0) ⟨#[],#[.agg #[.slice none 0 0,.slice none 0 0,.slice none 0 0]],[]⟩).memory Tryz.f10.params.toList Rows.pebbleFramesSpec.vars false #[Value.agg #[.slice none 0 0,.slice none 0 0,.slice none 0 0]].toList 8=some ([.agg [.nil,.nil,.nil]],[],places):=
 ⟨[],by kernel_rfl⟩
set_option maxRecDepth 100000 in
theorem Qox(os:Os)(started:os.Started)(H:Type)(enc:TypeId × Value→H)(F:Stop.Interp):
 ReturnsInHanded {} Tryz.checked os 10 .any ((Rows.OpenSpec.upto Rows.pebbleFramesSpec).preRow enc Tryz.prog Tryz.f10 Rows.pebbleFramesUptoRow.domain false Rows.pebbleFramesUptoRow.laid) (((Rows.OpenSpec.upto Rows.pebbleFramesSpec).at F).post enc Tryz.prog Tryz.f10 false true false false):=by
 obtain⟨places,hx⟩:=reads os enc
 refine returnsInHanded_of_row (C:=Tryz.checked) (s:=Rows.OpenSpec.upto Rows.pebbleFramesSpec) own started (by kernel_rfl) Tryz.func10
  (witness_row_at (enc:=enc) (C:=Tryz.checked) false (tabledP (World.holding Tryz.prog os ⟨#[],#[],[]⟩)) #[.agg #[.slice none 0 0,.slice none 0 0,.slice none 0 0]] rfl (by kernel_rfl) (by kernel_rfl) (by kernel_rfl)
    (OpenSpec.preRow_of_cond 8 hx (by kernel_rfl) (fun k hk=>by cases hk;kernel_rfl) (by kernel_rfl) (Qow os))) ?_
 intro W base args ds gs before hval hW _ hcond _ hL hsh _
 exact Qou H enc W base args ds gs before hval hW (hcond _ rfl) (glob hL hsh)
end pebbleFrames
end Go.Proofs.YtjhdfkcdigmfhaaGreatDoor
