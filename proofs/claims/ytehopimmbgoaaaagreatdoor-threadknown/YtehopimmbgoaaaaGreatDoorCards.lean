/-
  DERIVED. GIVEN WITH THE SEED: THE CARDS: each row of YtehopimmbgoaaaaGreatDoorRows.lean that lists a variable, with what it lists TIED to the program's text (the seventh form; the later family's looks); each row that meets fmt, with fmt's text TOLD by the authors' own Lean function (tested against real Go, not proved from fmt's source: count such statements apart). THE CARD IS WHAT COUNTS. Prove the row's statement (the work); the ties are given (YtehopimmbgoaaaaGreatDoorTie.lean); close each card by the builder's one call (the guide's Derived/Test/ToyasCard.lean, 'card_holds'). Laid BY PROGRAM, IN A SANDBOX (cutbox-door.mjs). By AI agents, Wed Nov 11 2026. No macro, syntax, notation, axiom, sorry.
-/
import Derived.Test.YtehopimmbgoaaaaGreatDoorRows
import GoSem.ClaimSeven
namespace Go.Proofs.YtehopimmbgoaaaaGreatDoor
namespace Rows

/-- THE TIED CARD OF 'muscovadolaw02.ThreadKnown'. -/
def threadKnownCard : Claim7 := { stood := { row := threadKnownRow, standIns := [], harness := (true, "f686fe53937e9db1caadcccd7300d0d6bd936f2440dbd7d68c6acac2016d6e73"), looks := true }, kinds := [], alts := [], goes := true, laidByText := true, laidKinds := [.data, .data, .handle], laidTests := true, laidLooks := .later }
def ThreadKnownCardSaid : Prop := Claim7.holds Tryz.pinned (.plain (OpenSpec.ofChange threadKnownSpec)) threadKnownCard

/-- THE SECOND FORM's CARD OF 'muscovadolaw02.ThreadKnown'. -/
def threadKnownUptoCard : Claim7 := { stood := { row := threadKnownUptoRow, standIns := [], harness := (true, "f686fe53937e9db1caadcccd7300d0d6bd936f2440dbd7d68c6acac2016d6e73"), looks := true }, kinds := [], alts := [], goes := true, laidByText := true, laidKinds := [.data, .data, .handle], laidTests := true, laidLooks := .later }
def ThreadKnownUptoCardSaid : Prop := Claim7.holds Tryz.pinned (.plain (OpenSpec.upto threadKnownSpec)) threadKnownUptoCard
end Rows
end Go.Proofs.YtehopimmbgoaaaaGreatDoor
