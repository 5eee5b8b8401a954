/-
  DERIVED. GIVEN WITH THE SEED: THE CARDS: each row of YtcidaiiknhfkiaaGreatDoorRows.lean that lists a variable, with what it lists TIED to the program's text (the seventh form; the later family's looks); each row that meets fmt, with fmt's text TOLD by the authors' own Lean function (tested against real Go, not proved from fmt's source: count such statements apart). THE CARD IS WHAT COUNTS. Prove the row's statement (the work); the ties are given (YtcidaiiknhfkiaaGreatDoorTie.lean); close each card by the builder's one call (the guide's Derived/Test/ToyasCard.lean, 'card_holds'). Laid BY PROGRAM, IN A SANDBOX (cutbox-door.mjs). By AI agents, Wed Nov 11 2026. No macro, syntax, notation, axiom, sorry.
-/
import Derived.Test.YtcidaiiknhfkiaaGreatDoorRows
import GoSem.ClaimSeven
namespace Go.Proofs.YtcidaiiknhfkiaaGreatDoor
namespace Rows

/-- THE TIED CARD OF 'muscovadolaw09.FiningPut'. -/
def finingPutCard : Claim7 := { stood := { row := finingPutRow, standIns := [], harness := (true, "a79ab2ae401dfb3991da74133c9fcf9909ea9159ed94cd09913cf1c846e017b4"), looks := true }, kinds := [], alts := [], laidByText := true, laidKinds := [.data, .handle], laidTests := true, laidLooks := .later }
def FiningPutCardSaid : Prop := Claim7.holds Tryz.pinned (.plain (OpenSpec.ofChange finingPutSpec)) finingPutCard

/-- THE TIED CARD OF 'muscovadolaw09.FiningPuts'. -/
def finingPutsCard : Claim7 := { stood := { row := finingPutsRow, standIns := [], harness := (true, "a79ab2ae401dfb3991da74133c9fcf9909ea9159ed94cd09913cf1c846e017b4"), looks := true }, kinds := [], alts := [], laidByText := true, laidKinds := [.data, .handle], laidTests := true, laidLooks := .later }
def FiningPutsCardSaid : Prop := Claim7.holds Tryz.pinned (.plain (OpenSpec.ofChange finingPutsSpec)) finingPutsCard

/-- THE TIED CARD OF 'muscovadolaw09.FiningNeeded'. -/
def finingNeededCard : Claim7 := { stood := { row := finingNeededRow, standIns := [], harness := (true, "a79ab2ae401dfb3991da74133c9fcf9909ea9159ed94cd09913cf1c846e017b4"), looks := true }, kinds := [], alts := [], laidByText := true, laidKinds := [.data, .handle], laidTests := true, laidLooks := .later }
def FiningNeededCardSaid : Prop := Claim7.holds Tryz.pinned (.plain (OpenSpec.ofChange finingNeededSpec)) finingNeededCard

/-- THE TIED CARD OF 'muscovadolaw09.FiningFewest'. -/
def finingFewestCard : Claim7 := { stood := { row := finingFewestRow, standIns := [], harness := (true, "a79ab2ae401dfb3991da74133c9fcf9909ea9159ed94cd09913cf1c846e017b4"), looks := true }, kinds := [], alts := [], laidByText := true, laidKinds := [.data, .handle], laidTests := true, laidLooks := .later }
def FiningFewestCardSaid : Prop := Claim7.holds Tryz.pinned (.plain (OpenSpec.ofChange finingFewestSpec)) finingFewestCard

/-- THE TIED CARD OF 'muscovadolaw09.FiningMore'. -/
def finingMoreCard : Claim7 := { stood := { row := finingMoreRow, standIns := [], harness := (true, "a79ab2ae401dfb3991da74133c9fcf9909ea9159ed94cd09913cf1c846e017b4"), looks := true }, kinds := [], alts := [], laidByText := true, laidKinds := [.data, .handle], laidTests := true, laidLooks := .later }
def FiningMoreCardSaid : Prop := Claim7.holds Tryz.pinned (.plain (OpenSpec.ofChange finingMoreSpec)) finingMoreCard

/-- THE TIED CARD OF 'muscovadolaw09.FiningNumbered'. -/
def finingNumberedCard : Claim7 := { stood := { row := finingNumberedRow, standIns := [], harness := (true, "a79ab2ae401dfb3991da74133c9fcf9909ea9159ed94cd09913cf1c846e017b4"), looks := true }, kinds := [], alts := [], laidByText := true, laidKinds := [.data, .handle], laidTests := true, laidLooks := .later }
def FiningNumberedCardSaid : Prop := Claim7.holds Tryz.pinned (.plain (OpenSpec.ofChange finingNumberedSpec)) finingNumberedCard

/-- THE TIED CARD OF 'muscovadolaw09.FiningNeeds'. -/
def finingNeedsCard : Claim7 := { stood := { row := finingNeedsRow, standIns := [], harness := (true, "a79ab2ae401dfb3991da74133c9fcf9909ea9159ed94cd09913cf1c846e017b4"), looks := true }, kinds := [], alts := [], laidByText := true, laidKinds := [.data, .handle], laidTests := true, laidLooks := .later }
def FiningNeedsCardSaid : Prop := Claim7.holds Tryz.pinned (.plain (OpenSpec.ofChange finingNeedsSpec)) finingNeedsCard

/-- THE TIED CARD OF 'muscovadolaw09.FiningHopes'. -/
def finingHopesCard : Claim7 := { stood := { row := finingHopesRow, standIns := [], harness := (true, "a79ab2ae401dfb3991da74133c9fcf9909ea9159ed94cd09913cf1c846e017b4"), looks := true }, kinds := [], alts := [], laidByText := true, laidKinds := [.data, .handle], laidTests := true, laidLooks := .later }
def FiningHopesCardSaid : Prop := Claim7.holds Tryz.pinned (.plain (OpenSpec.ofChange finingHopesSpec)) finingHopesCard

/-- THE TIED CARD OF 'muscovadolaw09.FiningBoths'. -/
def finingBothsCard : Claim7 := { stood := { row := finingBothsRow, standIns := [], harness := (true, "a79ab2ae401dfb3991da74133c9fcf9909ea9159ed94cd09913cf1c846e017b4"), looks := true }, kinds := [], alts := [], laidByText := true, laidKinds := [.data, .handle], laidTests := true, laidLooks := .later }
def FiningBothsCardSaid : Prop := Claim7.holds Tryz.pinned (.plain (OpenSpec.ofChange finingBothsSpec)) finingBothsCard

/-- THE SECOND FORM's CARD OF 'muscovadolaw09.FiningPut'. -/
def finingPutUptoCard : Claim7 := { stood := { row := finingPutUptoRow, standIns := [], harness := (true, "a79ab2ae401dfb3991da74133c9fcf9909ea9159ed94cd09913cf1c846e017b4"), looks := true }, kinds := [], alts := [], laidByText := true, laidKinds := [.data, .handle], laidTests := true, laidLooks := .later }
def FiningPutUptoCardSaid : Prop := Claim7.holds Tryz.pinned (.plain (OpenSpec.upto finingPutSpec)) finingPutUptoCard

/-- THE SECOND FORM's CARD OF 'muscovadolaw09.FiningPuts'. -/
def finingPutsUptoCard : Claim7 := { stood := { row := finingPutsUptoRow, standIns := [], harness := (true, "a79ab2ae401dfb3991da74133c9fcf9909ea9159ed94cd09913cf1c846e017b4"), looks := true }, kinds := [], alts := [], laidByText := true, laidKinds := [.data, .handle], laidTests := true, laidLooks := .later }
def FiningPutsUptoCardSaid : Prop := Claim7.holds Tryz.pinned (.plain (OpenSpec.upto finingPutsSpec)) finingPutsUptoCard

/-- THE SECOND FORM's CARD OF 'muscovadolaw09.FiningNeeded'. -/
def finingNeededUptoCard : Claim7 := { stood := { row := finingNeededUptoRow, standIns := [], harness := (true, "a79ab2ae401dfb3991da74133c9fcf9909ea9159ed94cd09913cf1c846e017b4"), looks := true }, kinds := [], alts := [], laidByText := true, laidKinds := [.data, .handle], laidTests := true, laidLooks := .later }
def FiningNeededUptoCardSaid : Prop := Claim7.holds Tryz.pinned (.plain (OpenSpec.upto finingNeededSpec)) finingNeededUptoCard

/-- THE SECOND FORM's CARD OF 'muscovadolaw09.FiningFewest'. -/
def finingFewestUptoCard : Claim7 := { stood := { row := finingFewestUptoRow, standIns := [], harness := (true, "a79ab2ae401dfb3991da74133c9fcf9909ea9159ed94cd09913cf1c846e017b4"), looks := true }, kinds := [], alts := [], laidByText := true, laidKinds := [.data, .handle], laidTests := true, laidLooks := .later }
def FiningFewestUptoCardSaid : Prop := Claim7.holds Tryz.pinned (.plain (OpenSpec.upto finingFewestSpec)) finingFewestUptoCard

/-- THE SECOND FORM's CARD OF 'muscovadolaw09.FiningMore'. -/
def finingMoreUptoCard : Claim7 := { stood := { row := finingMoreUptoRow, standIns := [], harness := (true, "a79ab2ae401dfb3991da74133c9fcf9909ea9159ed94cd09913cf1c846e017b4"), looks := true }, kinds := [], alts := [], laidByText := true, laidKinds := [.data, .handle], laidTests := true, laidLooks := .later }
def FiningMoreUptoCardSaid : Prop := Claim7.holds Tryz.pinned (.plain (OpenSpec.upto finingMoreSpec)) finingMoreUptoCard

/-- THE SECOND FORM's CARD OF 'muscovadolaw09.FiningNumbered'. -/
def finingNumberedUptoCard : Claim7 := { stood := { row := finingNumberedUptoRow, standIns := [], harness := (true, "a79ab2ae401dfb3991da74133c9fcf9909ea9159ed94cd09913cf1c846e017b4"), looks := true }, kinds := [], alts := [], laidByText := true, laidKinds := [.data, .handle], laidTests := true, laidLooks := .later }
def FiningNumberedUptoCardSaid : Prop := Claim7.holds Tryz.pinned (.plain (OpenSpec.upto finingNumberedSpec)) finingNumberedUptoCard

/-- THE SECOND FORM's CARD OF 'muscovadolaw09.FiningNeeds'. -/
def finingNeedsUptoCard : Claim7 := { stood := { row := finingNeedsUptoRow, standIns := [], harness := (true, "a79ab2ae401dfb3991da74133c9fcf9909ea9159ed94cd09913cf1c846e017b4"), looks := true }, kinds := [], alts := [], laidByText := true, laidKinds := [.data, .handle], laidTests := true, laidLooks := .later }
def FiningNeedsUptoCardSaid : Prop := Claim7.holds Tryz.pinned (.plain (OpenSpec.upto finingNeedsSpec)) finingNeedsUptoCard

/-- THE SECOND FORM's CARD OF 'muscovadolaw09.FiningHopes'. -/
def finingHopesUptoCard : Claim7 := { stood := { row := finingHopesUptoRow, standIns := [], harness := (true, "a79ab2ae401dfb3991da74133c9fcf9909ea9159ed94cd09913cf1c846e017b4"), looks := true }, kinds := [], alts := [], laidByText := true, laidKinds := [.data, .handle], laidTests := true, laidLooks := .later }
def FiningHopesUptoCardSaid : Prop := Claim7.holds Tryz.pinned (.plain (OpenSpec.upto finingHopesSpec)) finingHopesUptoCard

/-- THE SECOND FORM's CARD OF 'muscovadolaw09.FiningBoths'. -/
def finingBothsUptoCard : Claim7 := { stood := { row := finingBothsUptoRow, standIns := [], harness := (true, "a79ab2ae401dfb3991da74133c9fcf9909ea9159ed94cd09913cf1c846e017b4"), looks := true }, kinds := [], alts := [], laidByText := true, laidKinds := [.data, .handle], laidTests := true, laidLooks := .later }
def FiningBothsUptoCardSaid : Prop := Claim7.holds Tryz.pinned (.plain (OpenSpec.upto finingBothsSpec)) finingBothsUptoCard
end Rows
end Go.Proofs.YtcidaiiknhfkiaaGreatDoor
