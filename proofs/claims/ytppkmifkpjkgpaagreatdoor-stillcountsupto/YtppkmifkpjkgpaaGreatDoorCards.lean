/-
  DERIVED. GIVEN WITH THE SEED: THE CARDS: each row of YtppkmifkpjkgpaaGreatDoorRows.lean that lists a variable, with what it lists TIED to the program's text (the seventh form; the later family's looks); each row that meets fmt, with fmt's text TOLD by the authors' own Lean function (tested against real Go, not proved from fmt's source: count such statements apart). THE CARD IS WHAT COUNTS. Prove the row's statement (the work); the ties are given (YtppkmifkpjkgpaaGreatDoorTie.lean); close each card by the builder's one call (the guide's Derived/Test/ToyasCard.lean, 'card_holds'). Laid BY PROGRAM, IN A SANDBOX (cutbox-door.mjs). By AI agents, Wed Nov 11 2026. No macro, syntax, notation, axiom, sorry.
-/
import Derived.Test.YtppkmifkpjkgpaaGreatDoorRows
import GoSem.ClaimSeven
namespace Go.Proofs.YtppkmifkpjkgpaaGreatDoor
namespace Rows

/-- THE TIED CARD OF 'rafterlaw.StillCounts'. -/
def stillCountsCard : Claim7 := { stood := { row := stillCountsRow, standIns := [], harness := (true, "17679eef86d57cdd27419fe7ce789c7340ca35186718e90657927a6577b86f50"), looks := false }, kinds := [], alts := [], laidByText := true, laidKinds := [.data, .data, .data, .data, .data, .data, .data, .pinned], laidTests := true, laidLooks := .later }
def StillCountsCardSaid : Prop := Claim7.holds Tryz.pinned (.plain (OpenSpec.ofChange stillCountsSpec)) stillCountsCard

/-- THE TIED CARD OF 'rafterlaw.StillCarries'. -/
def stillCarriesCard : Claim7 := { stood := { row := stillCarriesRow, standIns := [], harness := (true, "17679eef86d57cdd27419fe7ce789c7340ca35186718e90657927a6577b86f50"), looks := false }, kinds := [], alts := [], laidByText := true, laidKinds := [.data, .data, .data, .data, .data, .data, .data, .data, .pinned], laidTests := true, laidLooks := .later }
def StillCarriesCardSaid : Prop := Claim7.holds Tryz.pinned (.plain (OpenSpec.ofChange stillCarriesSpec)) stillCarriesCard

/-- THE SECOND FORM's CARD OF 'rafterlaw.StillCounts'. -/
def stillCountsUptoCard : Claim7 := { stood := { row := stillCountsUptoRow, standIns := [], harness := (true, "17679eef86d57cdd27419fe7ce789c7340ca35186718e90657927a6577b86f50"), looks := false }, kinds := [], alts := [], laidByText := true, laidKinds := [.data, .data, .data, .data, .data, .data, .data, .pinned], laidTests := true, laidLooks := .later }
def StillCountsUptoCardSaid : Prop := Claim7.holds Tryz.pinned (.plain (OpenSpec.upto stillCountsSpec)) stillCountsUptoCard

/-- THE SECOND FORM's CARD OF 'rafterlaw.StillCarries'. -/
def stillCarriesUptoCard : Claim7 := { stood := { row := stillCarriesUptoRow, standIns := [], harness := (true, "17679eef86d57cdd27419fe7ce789c7340ca35186718e90657927a6577b86f50"), looks := false }, kinds := [], alts := [], laidByText := true, laidKinds := [.data, .data, .data, .data, .data, .data, .data, .data, .pinned], laidTests := true, laidLooks := .later }
def StillCarriesUptoCardSaid : Prop := Claim7.holds Tryz.pinned (.plain (OpenSpec.upto stillCarriesSpec)) stillCarriesUptoCard
end Rows
end Go.Proofs.YtppkmifkpjkgpaaGreatDoor
