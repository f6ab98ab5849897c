/-
  DERIVED. GIVEN WITH THE SEED: THE CARDS: each row of YtlicdeppfhmfjaaGreatDoorRows.lean that lists a variable, with what it lists TIED to the program's text (the seventh form; the later family's looks); each row that meets fmt, with fmt's text TOLD by the authors' own Lean function (tested against real Go, not proved from fmt's source: count such statements apart). THE CARD IS WHAT COUNTS. Prove the row's statement (the work); the ties are given (YtlicdeppfhmfjaaGreatDoorTie.lean); close each card by the builder's one call (the guide's Derived/Test/ToyasCard.lean, 'card_holds'). Laid BY PROGRAM, IN A SANDBOX (cutbox-door.mjs). By AI agents, Wed Nov 11 2026. No macro, syntax, notation, axiom, sorry.
-/
import Derived.Test.YtlicdeppfhmfjaaGreatDoorRows
import GoSem.ClaimSeven
namespace Go.Proofs.YtlicdeppfhmfjaaGreatDoor
namespace Rows

/-- THE TIED CARD OF 'vendmeterlaw.ReceiptShows'. -/
def receiptShowsCard : Claim7 := { stood := { row := receiptShowsRow, standIns := [], harness := (true, "3f5de386aa72ff6aed4ba99c2901011ee07104dc3cb32ff2002b635158f0a77a"), looks := true }, kinds := [], alts := [], laidByText := true, laidKinds := [.data, .data, .data, .data, .data, .wider], laidTests := true, laidLooks := .later }
def ReceiptShowsCardSaid : Prop := Claim7.holds Tryz.pinned (.plain (OpenSpec.ofChange receiptShowsSpec)) receiptShowsCard

/-- THE TIED CARD OF 'vendmeterlaw.ReceiptReads'. -/
def receiptReadsCard : Claim7 := { stood := { row := receiptReadsRow, standIns := [], harness := (true, "3f5de386aa72ff6aed4ba99c2901011ee07104dc3cb32ff2002b635158f0a77a"), looks := true }, kinds := [], alts := [], laidByText := true, laidKinds := [.data, .data, .data, .data, .sentinel, .sentinel, .data, .data, .wider, .pinned], laidTests := true, laidLooks := .later }
def ReceiptReadsCardSaid : Prop := Claim7.holds Tryz.pinned (.plain (OpenSpec.ofChange receiptReadsSpec)) receiptReadsCard

/-- THE TIED CARD OF 'vendmeterkeep.ReceiptBack'. -/
def receiptBackCard : Claim7 := { stood := { row := receiptBackRow, standIns := [], harness := (true, "3f5de386aa72ff6aed4ba99c2901011ee07104dc3cb32ff2002b635158f0a77a"), looks := true }, kinds := [], alts := [], laidByText := true, laidKinds := [.data, .data, .data, .data, .sentinel, .sentinel, .data, .data, .wider, .pinned], laidTests := true, laidLooks := .later }
def ReceiptBackCardSaid : Prop := Claim7.holds Tryz.pinned (.plain (OpenSpec.ofChange receiptBackSpec)) receiptBackCard

/-- THE SECOND FORM's CARD OF 'vendmeterlaw.ReceiptShows'. -/
def receiptShowsUptoCard : Claim7 := { stood := { row := receiptShowsUptoRow, standIns := [], harness := (true, "3f5de386aa72ff6aed4ba99c2901011ee07104dc3cb32ff2002b635158f0a77a"), looks := true }, kinds := [], alts := [], laidByText := true, laidKinds := [.data, .data, .data, .data, .data, .wider], laidTests := true, laidLooks := .later }
def ReceiptShowsUptoCardSaid : Prop := Claim7.holds Tryz.pinned (.plain (OpenSpec.upto receiptShowsSpec)) receiptShowsUptoCard

/-- THE SECOND FORM's CARD OF 'vendmeterlaw.ReceiptReads'. -/
def receiptReadsUptoCard : Claim7 := { stood := { row := receiptReadsUptoRow, standIns := [], harness := (true, "3f5de386aa72ff6aed4ba99c2901011ee07104dc3cb32ff2002b635158f0a77a"), looks := true }, kinds := [], alts := [], laidByText := true, laidKinds := [.data, .data, .data, .data, .sentinel, .sentinel, .data, .data, .wider, .pinned], laidTests := true, laidLooks := .later }
def ReceiptReadsUptoCardSaid : Prop := Claim7.holds Tryz.pinned (.plain (OpenSpec.upto receiptReadsSpec)) receiptReadsUptoCard

/-- THE SECOND FORM's CARD OF 'vendmeterkeep.ReceiptBack'. -/
def receiptBackUptoCard : Claim7 := { stood := { row := receiptBackUptoRow, standIns := [], harness := (true, "3f5de386aa72ff6aed4ba99c2901011ee07104dc3cb32ff2002b635158f0a77a"), looks := true }, kinds := [], alts := [], laidByText := true, laidKinds := [.data, .data, .data, .data, .sentinel, .sentinel, .data, .data, .wider, .pinned], laidTests := true, laidLooks := .later }
def ReceiptBackUptoCardSaid : Prop := Claim7.holds Tryz.pinned (.plain (OpenSpec.upto receiptBackSpec)) receiptBackUptoCard
end Rows
end Go.Proofs.YtlicdeppfhmfjaaGreatDoor
