/-
  DERIVED. GIVEN WITH THE SEED: THE CARDS: each row of YtfgclhpgdanmfaaGreatDoorRows.lean that lists a variable, with what it lists TIED to the program's text (the seventh form; the later family's looks); each row that meets fmt, with fmt's text TOLD by the authors' own Lean function (tested against real Go, not proved from fmt's source: count such statements apart). THE CARD IS WHAT COUNTS. Prove the row's statement (the work); the ties are given (YtfgclhpgdanmfaaGreatDoorTie.lean); close each card by the builder's one call (the guide's Derived/Test/ToyasCard.lean, 'card_holds'). Laid BY PROGRAM, IN A SANDBOX (cutbox-door.mjs). By AI agents, Wed Nov 11 2026. No macro, syntax, notation, axiom, sorry.
-/
import Derived.Test.YtfgclhpgdanmfaaGreatDoorRows
import GoSem.ClaimSeven
namespace Go.Proofs.YtfgclhpgdanmfaaGreatDoor
namespace Rows

/-- THE TIED CARD OF 'rafterlaw.GiveSays'. -/
def giveSaysCard : Claim7 := { stood := { row := giveSaysRow, standIns := [], harness := (true, "9fdfd79fd367604bdc210c1570626b6809d593c764003cc1f556d5c9cc6baa2c"), looks := false }, kinds := [], alts := [], laidByText := true, laidKinds := [.data, .data, .data, .data, .data, .data, .data, .data, .pinned], laidTests := true, laidLooks := .later }
def GiveSaysCardSaid : Prop := Claim7.holds Tryz.pinned (.plain (OpenSpec.ofChange giveSaysSpec)) giveSaysCard

/-- THE SECOND FORM's CARD OF 'rafterlaw.GiveSays'. -/
def giveSaysUptoCard : Claim7 := { stood := { row := giveSaysUptoRow, standIns := [], harness := (true, "9fdfd79fd367604bdc210c1570626b6809d593c764003cc1f556d5c9cc6baa2c"), looks := false }, kinds := [], alts := [], laidByText := true, laidKinds := [.data, .data, .data, .data, .data, .data, .data, .data, .pinned], laidTests := true, laidLooks := .later }
def GiveSaysUptoCardSaid : Prop := Claim7.holds Tryz.pinned (.plain (OpenSpec.upto giveSaysSpec)) giveSaysUptoCard
end Rows
end Go.Proofs.YtfgclhpgdanmfaaGreatDoor
