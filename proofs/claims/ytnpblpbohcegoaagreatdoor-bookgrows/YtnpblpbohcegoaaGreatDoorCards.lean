/-
  DERIVED. GIVEN WITH THE SEED: THE CARDS: each row of YtnpblpbohcegoaaGreatDoorRows.lean that lists a variable, with what it lists TIED to the program's text (the seventh form; the later family's looks); each row that meets fmt, with fmt's text TOLD by the authors' own Lean function (tested against real Go, not proved from fmt's source: count such statements apart). THE CARD IS WHAT COUNTS. Prove the row's statement (the work); the ties are given (YtnpblpbohcegoaaGreatDoorTie.lean); close each card by the builder's one call (the guide's Derived/Test/ToyasCard.lean, 'card_holds'). Laid BY PROGRAM, IN A SANDBOX (cutbox-door.mjs). By AI agents, Wed Nov 11 2026. No macro, syntax, notation, axiom, sorry.
-/
import Derived.Test.YtnpblpbohcegoaaGreatDoorRows
import GoSem.ClaimSeven
namespace Go.Proofs.YtnpblpbohcegoaaGreatDoor
namespace Rows

/-- THE TIED CARD OF 'vendmeterlaw.VendReprints'. -/
def vendReprintsCard : Claim7 := { stood := { row := vendReprintsRow, standIns := [], harness := (true, "2f57bc3318e49cb35411e9d88a8d33a5f9dcaa3b442683a3bed54cad89962fde"), looks := true }, kinds := [], alts := [], laidByText := true, laidKinds := [.data, .wider], laidTests := true, laidLooks := .later }
def VendReprintsCardSaid : Prop := Claim7.holds Tryz.pinned (.plain (OpenSpec.ofChange vendReprintsSpec)) vendReprintsCard

/-- THE TIED CARD OF 'vendmeterkeep.BookNumbers'. -/
def bookNumbersCard : Claim7 := { stood := { row := bookNumbersRow, standIns := [], harness := (true, "2f57bc3318e49cb35411e9d88a8d33a5f9dcaa3b442683a3bed54cad89962fde"), looks := true }, kinds := [], alts := [], laidByText := true, laidKinds := [.data, .wider], laidTests := true, laidLooks := .later }
def BookNumbersCardSaid : Prop := Claim7.holds Tryz.pinned (.plain (OpenSpec.ofChange bookNumbersSpec)) bookNumbersCard

/-- THE TIED CARD OF 'vendmeterkeep.BookGrows'. -/
def bookGrowsCard : Claim7 := { stood := { row := bookGrowsRow, standIns := [], harness := (true, "2f57bc3318e49cb35411e9d88a8d33a5f9dcaa3b442683a3bed54cad89962fde"), looks := true }, kinds := [], alts := [], laidByText := true, laidKinds := [.data, .wider], laidTests := true, laidLooks := .later }
def BookGrowsCardSaid : Prop := Claim7.holds Tryz.pinned (.plain (OpenSpec.ofChange bookGrowsSpec)) bookGrowsCard

/-- THE TIED CARD OF 'vendmeterkeep.BookTurned'. -/
def bookTurnedCard : Claim7 := { stood := { row := bookTurnedRow, standIns := [], harness := (true, "2f57bc3318e49cb35411e9d88a8d33a5f9dcaa3b442683a3bed54cad89962fde"), looks := true }, kinds := [], alts := [], laidByText := true, laidKinds := [.data, .wider], laidTests := true, laidLooks := .later }
def BookTurnedCardSaid : Prop := Claim7.holds Tryz.pinned (.plain (OpenSpec.ofChange bookTurnedSpec)) bookTurnedCard

/-- THE TIED CARD OF 'vendmeterkeep.VendCut'. -/
def vendCutCard : Claim7 := { stood := { row := vendCutRow, standIns := [], harness := (true, "2f57bc3318e49cb35411e9d88a8d33a5f9dcaa3b442683a3bed54cad89962fde"), looks := true }, kinds := [], alts := [], laidByText := true, laidKinds := [.data, .wider], laidTests := true, laidLooks := .later }
def VendCutCardSaid : Prop := Claim7.holds Tryz.pinned (.plain (OpenSpec.ofChange vendCutSpec)) vendCutCard

/-- THE TIED CARD OF 'vendmeterkeep.VendRetry'. -/
def vendRetryCard : Claim7 := { stood := { row := vendRetryRow, standIns := [], harness := (true, "2f57bc3318e49cb35411e9d88a8d33a5f9dcaa3b442683a3bed54cad89962fde"), looks := true }, kinds := [], alts := [], laidByText := true, laidKinds := [.data, .wider], laidTests := true, laidLooks := .later }
def VendRetryCardSaid : Prop := Claim7.holds Tryz.pinned (.plain (OpenSpec.ofChange vendRetrySpec)) vendRetryCard

/-- THE SECOND FORM's CARD OF 'vendmeterlaw.VendReprints'. -/
def vendReprintsUptoCard : Claim7 := { stood := { row := vendReprintsUptoRow, standIns := [], harness := (true, "2f57bc3318e49cb35411e9d88a8d33a5f9dcaa3b442683a3bed54cad89962fde"), looks := true }, kinds := [], alts := [], laidByText := true, laidKinds := [.data, .wider], laidTests := true, laidLooks := .later }
def VendReprintsUptoCardSaid : Prop := Claim7.holds Tryz.pinned (.plain (OpenSpec.upto vendReprintsSpec)) vendReprintsUptoCard

/-- THE SECOND FORM's CARD OF 'vendmeterkeep.BookNumbers'. -/
def bookNumbersUptoCard : Claim7 := { stood := { row := bookNumbersUptoRow, standIns := [], harness := (true, "2f57bc3318e49cb35411e9d88a8d33a5f9dcaa3b442683a3bed54cad89962fde"), looks := true }, kinds := [], alts := [], laidByText := true, laidKinds := [.data, .wider], laidTests := true, laidLooks := .later }
def BookNumbersUptoCardSaid : Prop := Claim7.holds Tryz.pinned (.plain (OpenSpec.upto bookNumbersSpec)) bookNumbersUptoCard

/-- THE SECOND FORM's CARD OF 'vendmeterkeep.BookGrows'. -/
def bookGrowsUptoCard : Claim7 := { stood := { row := bookGrowsUptoRow, standIns := [], harness := (true, "2f57bc3318e49cb35411e9d88a8d33a5f9dcaa3b442683a3bed54cad89962fde"), looks := true }, kinds := [], alts := [], laidByText := true, laidKinds := [.data, .wider], laidTests := true, laidLooks := .later }
def BookGrowsUptoCardSaid : Prop := Claim7.holds Tryz.pinned (.plain (OpenSpec.upto bookGrowsSpec)) bookGrowsUptoCard

/-- THE SECOND FORM's CARD OF 'vendmeterkeep.BookTurned'. -/
def bookTurnedUptoCard : Claim7 := { stood := { row := bookTurnedUptoRow, standIns := [], harness := (true, "2f57bc3318e49cb35411e9d88a8d33a5f9dcaa3b442683a3bed54cad89962fde"), looks := true }, kinds := [], alts := [], laidByText := true, laidKinds := [.data, .wider], laidTests := true, laidLooks := .later }
def BookTurnedUptoCardSaid : Prop := Claim7.holds Tryz.pinned (.plain (OpenSpec.upto bookTurnedSpec)) bookTurnedUptoCard

/-- THE SECOND FORM's CARD OF 'vendmeterkeep.VendCut'. -/
def vendCutUptoCard : Claim7 := { stood := { row := vendCutUptoRow, standIns := [], harness := (true, "2f57bc3318e49cb35411e9d88a8d33a5f9dcaa3b442683a3bed54cad89962fde"), looks := true }, kinds := [], alts := [], laidByText := true, laidKinds := [.data, .wider], laidTests := true, laidLooks := .later }
def VendCutUptoCardSaid : Prop := Claim7.holds Tryz.pinned (.plain (OpenSpec.upto vendCutSpec)) vendCutUptoCard

/-- THE SECOND FORM's CARD OF 'vendmeterkeep.VendRetry'. -/
def vendRetryUptoCard : Claim7 := { stood := { row := vendRetryUptoRow, standIns := [], harness := (true, "2f57bc3318e49cb35411e9d88a8d33a5f9dcaa3b442683a3bed54cad89962fde"), looks := true }, kinds := [], alts := [], laidByText := true, laidKinds := [.data, .wider], laidTests := true, laidLooks := .later }
def VendRetryUptoCardSaid : Prop := Claim7.holds Tryz.pinned (.plain (OpenSpec.upto vendRetrySpec)) vendRetryUptoCard
end Rows
end Go.Proofs.YtnpblpbohcegoaaGreatDoor
