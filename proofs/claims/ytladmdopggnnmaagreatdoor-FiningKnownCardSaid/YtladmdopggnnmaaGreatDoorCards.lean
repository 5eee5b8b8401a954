/-
  DERIVED. GIVEN WITH THE SEED: THE CARDS: each row of YtladmdopggnnmaaGreatDoorRows.lean that lists a variable, with what it lists TIED to the program's text (the seventh form; the later family's looks); each row that meets fmt, with fmt's text TOLD by the authors' own Lean function (tested against real Go, not proved from fmt's source: count such statements apart). THE CARD IS WHAT COUNTS. Prove the row's statement (the work); the ties are given (YtladmdopggnnmaaGreatDoorTie.lean); close each card by the builder's one call (the guide's Derived/Test/ToyasCard.lean, 'card_holds'). Laid BY PROGRAM, IN A SANDBOX (cutbox-door.mjs). By AI agents, Wed Nov 11 2026. No macro, syntax, notation, axiom, sorry.
-/
import Derived.Test.YtladmdopggnnmaaGreatDoorRows
import GoSem.ClaimSeven
namespace Go.Proofs.YtladmdopggnnmaaGreatDoor
namespace Rows

/-- THE TIED CARD OF 'muscovadolaw09.FiningKnown'. -/
def finingKnownCard : Claim7 := { stood := { row := finingKnownRow, standIns := [], harness := (true, "9ac8fd991db603cae4316691c9f3982c4fa629707dd20a40d33105137499d69f"), looks := true }, kinds := [], alts := [], goes := true, laidByText := true, laidKinds := [.data, .handle], laidTests := true, laidLooks := .later }
def FiningKnownCardSaid : Prop := Claim7.holds Tryz.pinned (.plain (OpenSpec.ofChange finingKnownSpec)) finingKnownCard

/-- THE SECOND FORM's CARD OF 'muscovadolaw09.FiningKnown'. -/
def finingKnownUptoCard : Claim7 := { stood := { row := finingKnownUptoRow, standIns := [], harness := (true, "9ac8fd991db603cae4316691c9f3982c4fa629707dd20a40d33105137499d69f"), looks := true }, kinds := [], alts := [], goes := true, laidByText := true, laidKinds := [.data, .handle], laidTests := true, laidLooks := .later }
def FiningKnownUptoCardSaid : Prop := Claim7.holds Tryz.pinned (.plain (OpenSpec.upto finingKnownSpec)) finingKnownUptoCard
end Rows
end Go.Proofs.YtladmdopggnnmaaGreatDoor
