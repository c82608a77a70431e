/-
  DERIVED. GIVEN WITH THE SEED: THE CARDS: each row of YtkkadnoecklepaaGreatDoorRows.lean that lists a variable, with what it lists TIED to the program's text (the seventh form; the later family's looks); each row that meets fmt, with fmt's text TOLD by the authors' own Lean function (tested against real Go, not proved from fmt's source: count such statements apart). THE CARD IS WHAT COUNTS. Prove the row's statement (the work); the ties are given (YtkkadnoecklepaaGreatDoorTie.lean); close each card by the builder's one call (the guide's Derived/Test/ToyasCard.lean, 'card_holds'). Laid BY PROGRAM, IN A SANDBOX (cutbox-door.mjs). By AI agents, Wed Nov 11 2026. No macro, syntax, notation, axiom, sorry.
-/
import Derived.Test.YtkkadnoecklepaaGreatDoorRows
import GoSem.ClaimSeven
namespace Go.Proofs.YtkkadnoecklepaaGreatDoor
namespace Rows

/-- THE TIED CARD OF 'rafterlaw.GiveSays'. -/
def giveSaysCard : Claim7 := { stood := { row := giveSaysRow, standIns := [], harness := (true, "f98e87ece0531c15a267dc5bd251f88f64925890ceb7c92230b350c24273571c"), looks := false }, kinds := [], alts := [], laidByText := true, laidKinds := [.data, .data, .data, .data, .data, .data, .data, .data, .pinned], laidTests := true, laidLooks := .later }
def GiveSaysCardSaid : Prop := Claim7.holds Tryz.pinned (.plain (OpenSpec.ofChange giveSaysSpec)) giveSaysCard

/-- THE TIED CARD OF 'rafterlaw.GiveBetti'. -/
def giveBettiCard : Claim7 := { stood := { row := giveBettiRow, standIns := [], harness := (true, "f98e87ece0531c15a267dc5bd251f88f64925890ceb7c92230b350c24273571c"), looks := false }, kinds := [], alts := [], laidByText := true, laidKinds := [.data, .data, .data, .data, .pinned], laidTests := true, laidLooks := .later }
def GiveBettiCardSaid : Prop := Claim7.holds Tryz.pinned (.plain (OpenSpec.ofChange giveBettiSpec)) giveBettiCard

/-- THE TIED CARD OF 'rafterlaw.GiveLeast'. -/
def giveLeastCard : Claim7 := { stood := { row := giveLeastRow, standIns := [], harness := (true, "f98e87ece0531c15a267dc5bd251f88f64925890ceb7c92230b350c24273571c"), looks := false }, kinds := [], alts := [], laidByText := true, laidKinds := [.data, .data, .data, .data, .pinned], laidTests := true, laidLooks := .later }
def GiveLeastCardSaid : Prop := Claim7.holds Tryz.pinned (.plain (OpenSpec.ofChange giveLeastSpec)) giveLeastCard

/-- THE SECOND FORM's CARD OF 'rafterlaw.GiveSays'. -/
def giveSaysUptoCard : Claim7 := { stood := { row := giveSaysUptoRow, standIns := [], harness := (true, "f98e87ece0531c15a267dc5bd251f88f64925890ceb7c92230b350c24273571c"), looks := false }, kinds := [], alts := [], laidByText := true, laidKinds := [.data, .data, .data, .data, .data, .data, .data, .data, .pinned], laidTests := true, laidLooks := .later }
def GiveSaysUptoCardSaid : Prop := Claim7.holds Tryz.pinned (.plain (OpenSpec.upto giveSaysSpec)) giveSaysUptoCard

/-- THE SECOND FORM's CARD OF 'rafterlaw.GiveBetti'. -/
def giveBettiUptoCard : Claim7 := { stood := { row := giveBettiUptoRow, standIns := [], harness := (true, "f98e87ece0531c15a267dc5bd251f88f64925890ceb7c92230b350c24273571c"), looks := false }, kinds := [], alts := [], laidByText := true, laidKinds := [.data, .data, .data, .data, .pinned], laidTests := true, laidLooks := .later }
def GiveBettiUptoCardSaid : Prop := Claim7.holds Tryz.pinned (.plain (OpenSpec.upto giveBettiSpec)) giveBettiUptoCard

/-- THE SECOND FORM's CARD OF 'rafterlaw.GiveLeast'. -/
def giveLeastUptoCard : Claim7 := { stood := { row := giveLeastUptoRow, standIns := [], harness := (true, "f98e87ece0531c15a267dc5bd251f88f64925890ceb7c92230b350c24273571c"), looks := false }, kinds := [], alts := [], laidByText := true, laidKinds := [.data, .data, .data, .data, .pinned], laidTests := true, laidLooks := .later }
def GiveLeastUptoCardSaid : Prop := Claim7.holds Tryz.pinned (.plain (OpenSpec.upto giveLeastSpec)) giveLeastUptoCard
end Rows
end Go.Proofs.YtkkadnoecklepaaGreatDoor
