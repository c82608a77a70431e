/-
  DERIVED. GIVEN WITH THE SEED: THE CARDS: each row of YtbbkamnfjejceaaGreatDoorRows.lean that lists a variable, with what it lists TIED to the program's text (the seventh form; the later family's looks); each row that meets fmt, with fmt's text TOLD by the authors' own Lean function (tested against real Go, not proved from fmt's source: count such statements apart). THE CARD IS WHAT COUNTS. Prove the row's statement (the work); the ties are given (YtbbkamnfjejceaaGreatDoorTie.lean); close each card by the builder's one call (the guide's Derived/Test/ToyasCard.lean, 'card_holds'). Laid BY PROGRAM, IN A SANDBOX (cutbox-door.mjs). By AI agents, Wed Nov 11 2026. No macro, syntax, notation, axiom, sorry.
-/
import Derived.Test.YtbbkamnfjejceaaGreatDoorRows
import GoSem.ClaimSeven
namespace Go.Proofs.YtbbkamnfjejceaaGreatDoor
namespace Rows

/-- THE TIED CARD OF 'rafterlaw.ForceSays'. -/
def forceSaysCard : Claim7 := { stood := { row := forceSaysRow, standIns := [], harness := (true, "d491a6abf628b23e700745fef47dea2f624240b8c290b8cd1d4274f9d69c9e7f"), looks := false }, kinds := [], alts := [], laidByText := true, laidKinds := [.data, .data, .data, .data, .data, .pinned], laidTests := true, laidLooks := .later }
def ForceSaysCardSaid : Prop := Claim7.holds Tryz.pinned (.plain (OpenSpec.ofChange forceSaysSpec)) forceSaysCard

/-- THE TIED CARD OF 'rafterlaw.ForceTurns'. -/
def forceTurnsCard : Claim7 := { stood := { row := forceTurnsRow, standIns := [], harness := (true, "d491a6abf628b23e700745fef47dea2f624240b8c290b8cd1d4274f9d69c9e7f"), looks := false }, kinds := [], alts := [], laidByText := true, laidKinds := [.data, .data, .data, .data, .pinned], laidTests := true, laidLooks := .later }
def ForceTurnsCardSaid : Prop := Claim7.holds Tryz.pinned (.plain (OpenSpec.ofChange forceTurnsSpec)) forceTurnsCard

/-- THE TIED CARD OF 'rafterlaw.RigChecks'. -/
def rigChecksCard : Claim7 := { stood := { row := rigChecksRow, standIns := [], harness := (true, "d491a6abf628b23e700745fef47dea2f624240b8c290b8cd1d4274f9d69c9e7f"), looks := false }, kinds := [], alts := [], laidByText := true, laidKinds := [.data, .data, .data, .data, .data, .data, .data, .pinned], laidTests := true, laidLooks := .later }
def RigChecksCardSaid : Prop := Claim7.holds Tryz.pinned (.plain (OpenSpec.ofChange rigChecksSpec)) rigChecksCard

/-- THE TIED CARD OF 'rafterlaw.PebbleFrames'. -/
def pebbleFramesCard : Claim7 := { stood := { row := pebbleFramesRow, standIns := [], harness := (true, "d491a6abf628b23e700745fef47dea2f624240b8c290b8cd1d4274f9d69c9e7f"), looks := false }, kinds := [], alts := [], laidByText := true, laidKinds := [.data, .data, .data, .data, .pinned], laidTests := true, laidLooks := .later }
def PebbleFramesCardSaid : Prop := Claim7.holds Tryz.pinned (.plain (OpenSpec.ofChange pebbleFramesSpec)) pebbleFramesCard

/-- THE SECOND FORM's CARD OF 'rafterlaw.ForceSays'. -/
def forceSaysUptoCard : Claim7 := { stood := { row := forceSaysUptoRow, standIns := [], harness := (true, "d491a6abf628b23e700745fef47dea2f624240b8c290b8cd1d4274f9d69c9e7f"), looks := false }, kinds := [], alts := [], laidByText := true, laidKinds := [.data, .data, .data, .data, .data, .pinned], laidTests := true, laidLooks := .later }
def ForceSaysUptoCardSaid : Prop := Claim7.holds Tryz.pinned (.plain (OpenSpec.upto forceSaysSpec)) forceSaysUptoCard

/-- THE SECOND FORM's CARD OF 'rafterlaw.ForceTurns'. -/
def forceTurnsUptoCard : Claim7 := { stood := { row := forceTurnsUptoRow, standIns := [], harness := (true, "d491a6abf628b23e700745fef47dea2f624240b8c290b8cd1d4274f9d69c9e7f"), looks := false }, kinds := [], alts := [], laidByText := true, laidKinds := [.data, .data, .data, .data, .pinned], laidTests := true, laidLooks := .later }
def ForceTurnsUptoCardSaid : Prop := Claim7.holds Tryz.pinned (.plain (OpenSpec.upto forceTurnsSpec)) forceTurnsUptoCard

/-- THE SECOND FORM's CARD OF 'rafterlaw.RigChecks'. -/
def rigChecksUptoCard : Claim7 := { stood := { row := rigChecksUptoRow, standIns := [], harness := (true, "d491a6abf628b23e700745fef47dea2f624240b8c290b8cd1d4274f9d69c9e7f"), looks := false }, kinds := [], alts := [], laidByText := true, laidKinds := [.data, .data, .data, .data, .data, .data, .data, .pinned], laidTests := true, laidLooks := .later }
def RigChecksUptoCardSaid : Prop := Claim7.holds Tryz.pinned (.plain (OpenSpec.upto rigChecksSpec)) rigChecksUptoCard

/-- THE SECOND FORM's CARD OF 'rafterlaw.PebbleFrames'. -/
def pebbleFramesUptoCard : Claim7 := { stood := { row := pebbleFramesUptoRow, standIns := [], harness := (true, "d491a6abf628b23e700745fef47dea2f624240b8c290b8cd1d4274f9d69c9e7f"), looks := false }, kinds := [], alts := [], laidByText := true, laidKinds := [.data, .data, .data, .data, .pinned], laidTests := true, laidLooks := .later }
def PebbleFramesUptoCardSaid : Prop := Claim7.holds Tryz.pinned (.plain (OpenSpec.upto pebbleFramesSpec)) pebbleFramesUptoCard
end Rows
end Go.Proofs.YtbbkamnfjejceaaGreatDoor
