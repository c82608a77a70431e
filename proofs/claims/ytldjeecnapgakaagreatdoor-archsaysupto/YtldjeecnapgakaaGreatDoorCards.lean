/-
  DERIVED. GIVEN WITH THE SEED: THE CARDS: each row of YtldjeecnapgakaaGreatDoorRows.lean that lists a variable, with what it lists TIED to the program's text (the seventh form; the later family's looks); each row that meets fmt, with fmt's text TOLD by the authors' own Lean function (tested against real Go, not proved from fmt's source: count such statements apart). THE CARD IS WHAT COUNTS. Prove the row's statement (the work); the ties are given (YtldjeecnapgakaaGreatDoorTie.lean); close each card by the builder's one call (the guide's Derived/Test/ToyasCard.lean, 'card_holds'). Laid BY PROGRAM, IN A SANDBOX (cutbox-door.mjs). By AI agents, Wed Nov 11 2026. No macro, syntax, notation, axiom, sorry.
-/
import Derived.Test.YtldjeecnapgakaaGreatDoorRows
import GoSem.ClaimSeven
namespace Go.Proofs.YtldjeecnapgakaaGreatDoor
namespace Rows

/-- THE TIED CARD OF 'rafterlaw.ArchSays'. -/
def archSaysCard : Claim7 := { stood := { row := archSaysRow, standIns := [], harness := (true, "af0c8919f96ad55bc0d09dbe8410b6df4cf26de3ade8a49cb94f63e81ad0c0e7"), looks := false }, kinds := [], alts := [], laidByText := true, laidKinds := [.data, .data, .data, .data, .data, .pinned], laidTests := true, laidLooks := .later }
def ArchSaysCardSaid : Prop := Claim7.holds Tryz.pinned (.plain (OpenSpec.ofChange archSaysSpec)) archSaysCard

/-- THE TIED CARD OF 'rafterlaw.ArchStands'. -/
def archStandsCard : Claim7 := { stood := { row := archStandsRow, standIns := [], harness := (true, "af0c8919f96ad55bc0d09dbe8410b6df4cf26de3ade8a49cb94f63e81ad0c0e7"), looks := false }, kinds := [], alts := [], laidByText := true, laidKinds := [.data, .data, .data, .data, .pinned], laidTests := true, laidLooks := .later }
def ArchStandsCardSaid : Prop := Claim7.holds Tryz.pinned (.plain (OpenSpec.ofChange archStandsSpec)) archStandsCard

/-- THE SECOND FORM's CARD OF 'rafterlaw.ArchSays'. -/
def archSaysUptoCard : Claim7 := { stood := { row := archSaysUptoRow, standIns := [], harness := (true, "af0c8919f96ad55bc0d09dbe8410b6df4cf26de3ade8a49cb94f63e81ad0c0e7"), looks := false }, kinds := [], alts := [], laidByText := true, laidKinds := [.data, .data, .data, .data, .data, .pinned], laidTests := true, laidLooks := .later }
def ArchSaysUptoCardSaid : Prop := Claim7.holds Tryz.pinned (.plain (OpenSpec.upto archSaysSpec)) archSaysUptoCard

/-- THE SECOND FORM's CARD OF 'rafterlaw.ArchStands'. -/
def archStandsUptoCard : Claim7 := { stood := { row := archStandsUptoRow, standIns := [], harness := (true, "af0c8919f96ad55bc0d09dbe8410b6df4cf26de3ade8a49cb94f63e81ad0c0e7"), looks := false }, kinds := [], alts := [], laidByText := true, laidKinds := [.data, .data, .data, .data, .pinned], laidTests := true, laidLooks := .later }
def ArchStandsUptoCardSaid : Prop := Claim7.holds Tryz.pinned (.plain (OpenSpec.upto archStandsSpec)) archStandsUptoCard
end Rows
end Go.Proofs.YtldjeecnapgakaaGreatDoor
