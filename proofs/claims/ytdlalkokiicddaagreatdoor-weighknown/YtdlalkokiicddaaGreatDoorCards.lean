/-
  DERIVED. GIVEN WITH THE SEED: THE CARDS: each row of YtdlalkokiicddaaGreatDoorRows.lean that lists a variable, with what it lists TIED to the program's text (the seventh form; the later family's looks); each row that meets fmt, with fmt's text TOLD by the authors' own Lean function (tested against real Go, not proved from fmt's source: count such statements apart). THE CARD IS WHAT COUNTS. Prove the row's statement (the work); the ties are given (YtdlalkokiicddaaGreatDoorTie.lean); close each card by the builder's one call (the guide's Derived/Test/ToyasCard.lean, 'card_holds'). Laid BY PROGRAM, IN A SANDBOX (cutbox-door.mjs). By AI agents, Wed Nov 11 2026. No macro, syntax, notation, axiom, sorry.
-/
import Derived.Test.YtdlalkokiicddaaGreatDoorRows
import GoSem.ClaimSeven
namespace Go.Proofs.YtdlalkokiicddaaGreatDoor
namespace Rows

/-- THE TIED CARD OF 'muscovadolaw01.WeighKnown'. -/
def weighKnownCard : Claim7 := { stood := { row := weighKnownRow, standIns := [], harness := (true, "84fa0c27f16afd4028b136655bd682b3d7964a6a33f0c1832be8c8fac41b0986"), looks := true }, kinds := [], alts := [], goes := true, laidByText := true, laidKinds := [.handle], laidTests := true, laidLooks := .later }
def WeighKnownCardSaid : Prop := Claim7.holds Tryz.pinned (.plain (OpenSpec.ofChange weighKnownSpec)) weighKnownCard

/-- THE SECOND FORM's CARD OF 'muscovadolaw01.WeighKnown'. -/
def weighKnownUptoCard : Claim7 := { stood := { row := weighKnownUptoRow, standIns := [], harness := (true, "84fa0c27f16afd4028b136655bd682b3d7964a6a33f0c1832be8c8fac41b0986"), looks := true }, kinds := [], alts := [], goes := true, laidByText := true, laidKinds := [.handle], laidTests := true, laidLooks := .later }
def WeighKnownUptoCardSaid : Prop := Claim7.holds Tryz.pinned (.plain (OpenSpec.upto weighKnownSpec)) weighKnownUptoCard
end Rows
end Go.Proofs.YtdlalkokiicddaaGreatDoor
