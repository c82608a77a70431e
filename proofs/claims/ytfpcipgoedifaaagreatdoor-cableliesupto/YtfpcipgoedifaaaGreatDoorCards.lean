/-
  DERIVED. GIVEN WITH THE SEED: THE CARDS: each row of YtfpcipgoedifaaaGreatDoorRows.lean that lists a variable, with what it lists TIED to the program's text (the seventh form; the later family's looks); each row that meets fmt, with fmt's text TOLD by the authors' own Lean function (tested against real Go, not proved from fmt's source: count such statements apart). THE CARD IS WHAT COUNTS. Prove the row's statement (the work); the ties are given (YtfpcipgoedifaaaGreatDoorTie.lean); close each card by the builder's one call (the guide's Derived/Test/ToyasCard.lean, 'card_holds'). Laid BY PROGRAM, IN A SANDBOX (cutbox-door.mjs). By AI agents, Wed Nov 11 2026. No macro, syntax, notation, axiom, sorry.
-/
import Derived.Test.YtfpcipgoedifaaaGreatDoorRows
import GoSem.ClaimSeven
namespace Go.Proofs.YtfpcipgoedifaaaGreatDoor
namespace Rows

/-- THE TIED CARD OF 'rafterlaw.CableLies'. -/
def cableLiesCard : Claim7 := { stood := { row := cableLiesRow, standIns := [], harness := (true, "f1dc0c2707f1db0dc8a2d763c13590840d4de1681eafb4f226074c14f5dffc60"), looks := false }, kinds := [], alts := [], laidByText := true, laidKinds := [.data, .data, .data, .data, .pinned], laidTests := true, laidLooks := .later }
def CableLiesCardSaid : Prop := Claim7.holds Tryz.pinned (.plain (OpenSpec.ofChange cableLiesSpec)) cableLiesCard

/-- THE SECOND FORM's CARD OF 'rafterlaw.CableLies'. -/
def cableLiesUptoCard : Claim7 := { stood := { row := cableLiesUptoRow, standIns := [], harness := (true, "f1dc0c2707f1db0dc8a2d763c13590840d4de1681eafb4f226074c14f5dffc60"), looks := false }, kinds := [], alts := [], laidByText := true, laidKinds := [.data, .data, .data, .data, .pinned], laidTests := true, laidLooks := .later }
def CableLiesUptoCardSaid : Prop := Claim7.holds Tryz.pinned (.plain (OpenSpec.upto cableLiesSpec)) cableLiesUptoCard
end Rows
end Go.Proofs.YtfpcipgoedifaaaGreatDoor
