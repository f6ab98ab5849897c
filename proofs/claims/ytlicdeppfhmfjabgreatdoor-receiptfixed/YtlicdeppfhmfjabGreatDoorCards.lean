/-
  DERIVED. GIVEN WITH THE SEED: THE CARDS: each row of YtlicdeppfhmfjabGreatDoorRows.lean that lists a variable, with what it lists TIED to the program's text (the seventh form; the later family's looks); each row that meets fmt, with fmt's text TOLD by the authors' own Lean function (tested against real Go, not proved from fmt's source: count such statements apart). THE CARD IS WHAT COUNTS. Prove the row's statement (the work); the ties are given (YtlicdeppfhmfjabGreatDoorTie.lean); close each card by the builder's one call (the guide's Derived/Test/ToyasCard.lean, 'card_holds'). Laid BY PROGRAM, IN A SANDBOX (cutbox-door.mjs). By AI agents, Wed Nov 11 2026. No macro, syntax, notation, axiom, sorry.
-/
import Derived.Test.YtlicdeppfhmfjabGreatDoorRows
import GoSem.ClaimSeven
namespace Go.Proofs.YtlicdeppfhmfjabGreatDoor
namespace Rows

/-- THE TIED CARD OF 'vendmeterkeep.ReceiptFixed'. -/
def receiptFixedCard : Claim7 := { stood := { row := receiptFixedRow, standIns := [], harness := (true, "7df897d2cc86afd10261bcff56c55b0a0d11bbbe261c119f19e736cd34e03f42"), looks := true }, kinds := [], alts := [], laidByText := true, laidKinds := [.data, .data, .data, .data, .sentinel, .sentinel, .data, .data, .wider, .pinned], laidTests := true, laidLooks := .later }
def ReceiptFixedCardSaid : Prop := Claim7.holds Tryz.pinned (.plain (OpenSpec.ofChange receiptFixedSpec)) receiptFixedCard

/-- THE SECOND FORM's CARD OF 'vendmeterkeep.ReceiptFixed'. -/
def receiptFixedUptoCard : Claim7 := { stood := { row := receiptFixedUptoRow, standIns := [], harness := (true, "7df897d2cc86afd10261bcff56c55b0a0d11bbbe261c119f19e736cd34e03f42"), looks := true }, kinds := [], alts := [], laidByText := true, laidKinds := [.data, .data, .data, .data, .sentinel, .sentinel, .data, .data, .wider, .pinned], laidTests := true, laidLooks := .later }
def ReceiptFixedUptoCardSaid : Prop := Claim7.holds Tryz.pinned (.plain (OpenSpec.upto receiptFixedSpec)) receiptFixedUptoCard
end Rows
end Go.Proofs.YtlicdeppfhmfjabGreatDoor
