/-
  DERIVED. GIVEN WITH THE SEED: THE CARDS: each row of YtcidaiiknhfkiaaDoorRows.lean that lists a variable, with what it lists TIED to the program's text (the seventh form; the later family's looks); each row that meets fmt, with fmt's text TOLD by the authors' own Lean function (tested against real Go, not proved from fmt's source: count such statements apart). THE CARD IS WHAT COUNTS. Prove the row's statement (the work); the ties are given (YtcidaiiknhfkiaaDoorTie.lean); close each card by the builder's one call (the guide's Derived/Test/ToyasCard.lean, 'card_holds'). Laid BY PROGRAM, IN A SANDBOX (cutbox-door.mjs). By AI agents, Wed Nov 11 2026. No macro, syntax, notation, axiom, sorry.
-/
import Derived.Test.YtcidaiiknhfkiaaDoorRows
import GoSem.ClaimSeven
namespace Go.Proofs.YtcidaiiknhfkiaaDoor
namespace Rows

/-- THE TIED CARD OF 'muscovadolaw09.FiningCheapest'. -/
def finingCheapestCard : Claim7 := { stood := { row := finingCheapestRow, standIns := [], harness := (true, "7a0ba00693f9ef8eac7e3e066181f3bcd4fbe3a8443b88272a8288f631458fe5"), looks := true }, kinds := [], alts := [], laidByText := true, laidKinds := [.data, .handle], laidTests := true, laidLooks := .later }
def FiningCheapestCardSaid : Prop := Claim7.holds Tryd.pinned (.plain (OpenSpec.ofChange finingCheapestSpec)) finingCheapestCard

/-- THE TIED CARD OF 'muscovadolaw09.FiningBoth'. -/
def finingBothCard : Claim7 := { stood := { row := finingBothRow, standIns := [], harness := (true, "7a0ba00693f9ef8eac7e3e066181f3bcd4fbe3a8443b88272a8288f631458fe5"), looks := true }, kinds := [], alts := [], laidByText := true, laidKinds := [.data, .handle], laidTests := true, laidLooks := .later }
def FiningBothCardSaid : Prop := Claim7.holds Tryd.pinned (.plain (OpenSpec.ofChange finingBothSpec)) finingBothCard

/-- THE TIED CARD OF 'muscovadolaw09.FiningTells'. -/
def finingTellsCard : Claim7 := { stood := { row := finingTellsRow, standIns := [], harness := (true, "7a0ba00693f9ef8eac7e3e066181f3bcd4fbe3a8443b88272a8288f631458fe5"), looks := true }, kinds := [], alts := [], laidByText := true, laidKinds := [.data, .handle], laidTests := true, laidLooks := .later }
def FiningTellsCardSaid : Prop := Claim7.holds Tryd.pinned (.plain (OpenSpec.ofChange finingTellsSpec)) finingTellsCard

/-- THE SECOND FORM's CARD OF 'muscovadolaw09.FiningCheapest'. -/
def finingCheapestUptoCard : Claim7 := { stood := { row := finingCheapestUptoRow, standIns := [], harness := (true, "7a0ba00693f9ef8eac7e3e066181f3bcd4fbe3a8443b88272a8288f631458fe5"), looks := true }, kinds := [], alts := [], laidByText := true, laidKinds := [.data, .handle], laidTests := true, laidLooks := .later }
def FiningCheapestUptoCardSaid : Prop := Claim7.holds Tryd.pinned (.plain (OpenSpec.upto finingCheapestSpec)) finingCheapestUptoCard

/-- THE SECOND FORM's CARD OF 'muscovadolaw09.FiningBoth'. -/
def finingBothUptoCard : Claim7 := { stood := { row := finingBothUptoRow, standIns := [], harness := (true, "7a0ba00693f9ef8eac7e3e066181f3bcd4fbe3a8443b88272a8288f631458fe5"), looks := true }, kinds := [], alts := [], laidByText := true, laidKinds := [.data, .handle], laidTests := true, laidLooks := .later }
def FiningBothUptoCardSaid : Prop := Claim7.holds Tryd.pinned (.plain (OpenSpec.upto finingBothSpec)) finingBothUptoCard

/-- THE SECOND FORM's CARD OF 'muscovadolaw09.FiningTells'. -/
def finingTellsUptoCard : Claim7 := { stood := { row := finingTellsUptoRow, standIns := [], harness := (true, "7a0ba00693f9ef8eac7e3e066181f3bcd4fbe3a8443b88272a8288f631458fe5"), looks := true }, kinds := [], alts := [], laidByText := true, laidKinds := [.data, .handle], laidTests := true, laidLooks := .later }
def FiningTellsUptoCardSaid : Prop := Claim7.holds Tryd.pinned (.plain (OpenSpec.upto finingTellsSpec)) finingTellsUptoCard
end Rows
end Go.Proofs.YtcidaiiknhfkiaaDoor
