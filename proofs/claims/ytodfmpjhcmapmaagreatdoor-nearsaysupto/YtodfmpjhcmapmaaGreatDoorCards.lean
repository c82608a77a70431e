/-
  DERIVED. GIVEN WITH THE SEED: THE CARDS: each row of YtodfmpjhcmapmaaGreatDoorRows.lean that lists a variable, with what it lists TIED to the program's text (the seventh form; the later family's looks); each row that meets fmt, with fmt's text TOLD by the authors' own Lean function (tested against real Go, not proved from fmt's source: count such statements apart). THE CARD IS WHAT COUNTS. Prove the row's statement (the work); the ties are given (YtodfmpjhcmapmaaGreatDoorTie.lean); close each card by the builder's one call (the guide's Derived/Test/ToyasCard.lean, 'card_holds'). Laid BY PROGRAM, IN A SANDBOX (cutbox-door.mjs). By AI agents, Wed Nov 11 2026. No macro, syntax, notation, axiom, sorry.
-/
import Derived.Test.YtodfmpjhcmapmaaGreatDoorRows
import GoSem.ClaimSeven
namespace Go.Proofs.YtodfmpjhcmapmaaGreatDoor
namespace Rows

/-- THE TIED CARD OF 'rafterlaw.NearSays'. -/
def nearSaysCard : Claim7 := { stood := { row := nearSaysRow, standIns := [], harness := (true, "7d35bedbe1b6ba811174cea8d7c5805ad9314ed4bc158a502ff2d8c97d5ba5d7"), looks := false }, kinds := [], alts := [], laidByText := true, laidKinds := [.data, .data, .data, .data, .pinned], laidTests := true, laidLooks := .later }
def NearSaysCardSaid : Prop := Claim7.holds Tryz.pinned (.plain (OpenSpec.ofChange nearSaysSpec)) nearSaysCard

/-- THE SECOND FORM's CARD OF 'rafterlaw.NearSays'. -/
def nearSaysUptoCard : Claim7 := { stood := { row := nearSaysUptoRow, standIns := [], harness := (true, "7d35bedbe1b6ba811174cea8d7c5805ad9314ed4bc158a502ff2d8c97d5ba5d7"), looks := false }, kinds := [], alts := [], laidByText := true, laidKinds := [.data, .data, .data, .data, .pinned], laidTests := true, laidLooks := .later }
def NearSaysUptoCardSaid : Prop := Claim7.holds Tryz.pinned (.plain (OpenSpec.upto nearSaysSpec)) nearSaysUptoCard
end Rows
end Go.Proofs.YtodfmpjhcmapmaaGreatDoor
