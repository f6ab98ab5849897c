/-
  DERIVED. GIVEN WITH THE SEED: THE CARDS: each row of YtlicdeppfhmfjabDoorRows.lean that lists a variable, with what it lists TIED to the program's text (the seventh form; the later family's looks); each row that meets fmt, with fmt's text TOLD by the authors' own Lean function (tested against real Go, not proved from fmt's source: count such statements apart). THE CARD IS WHAT COUNTS. Prove the row's statement (the work); the ties are given (YtlicdeppfhmfjabDoorTie.lean); close each card by the builder's one call (the guide's Derived/Test/ToyasCard.lean, 'card_holds'). Laid BY PROGRAM, IN A SANDBOX (cutbox-door.mjs). By AI agents, Wed Nov 11 2026. No macro, syntax, notation, axiom, sorry.
-/
import Derived.Test.YtlicdeppfhmfjabDoorRows
import GoSem.ClaimSeven
namespace Go.Proofs.YtlicdeppfhmfjabDoor
namespace Rows

/-- THE TIED CARD OF 'vendmeterkeep.ReceiptForged'. -/
def receiptForgedCard : Claim7 := { stood := { row := receiptForgedRow, standIns := [], harness := (true, "96e58240082ae393ec3c031cef7bd016ab9054722cbcb7a2e250a92e69bff2be"), looks := true }, kinds := [], alts := [], laidByText := true, laidKinds := [.data, .data, .data, .data, .data, .wider], laidTests := true, laidLooks := .later }
def ReceiptForgedCardSaid : Prop := Claim7.holds Tryd.pinned (.plain (OpenSpec.ofChange receiptForgedSpec)) receiptForgedCard

/-- THE TIED CARD OF 'vendmeterkeep.NumberSlip'. -/
def numberSlipCard : Claim7 := { stood := { row := numberSlipRow, standIns := [], harness := (true, "96e58240082ae393ec3c031cef7bd016ab9054722cbcb7a2e250a92e69bff2be"), looks := true }, kinds := [], alts := [], laidByText := true, laidKinds := [.data, .data, .data, .sentinel, .sentinel, .data], laidTests := true, laidLooks := .later }
def NumberSlipCardSaid : Prop := Claim7.holds Tryd.pinned (.plain (OpenSpec.ofChange numberSlipSpec)) numberSlipCard

/-- THE SECOND FORM's CARD OF 'vendmeterkeep.ReceiptForged'. -/
def receiptForgedUptoCard : Claim7 := { stood := { row := receiptForgedUptoRow, standIns := [], harness := (true, "96e58240082ae393ec3c031cef7bd016ab9054722cbcb7a2e250a92e69bff2be"), looks := true }, kinds := [], alts := [], laidByText := true, laidKinds := [.data, .data, .data, .data, .data, .wider], laidTests := true, laidLooks := .later }
def ReceiptForgedUptoCardSaid : Prop := Claim7.holds Tryd.pinned (.plain (OpenSpec.upto receiptForgedSpec)) receiptForgedUptoCard

/-- THE SECOND FORM's CARD OF 'vendmeterkeep.NumberSlip'. -/
def numberSlipUptoCard : Claim7 := { stood := { row := numberSlipUptoRow, standIns := [], harness := (true, "96e58240082ae393ec3c031cef7bd016ab9054722cbcb7a2e250a92e69bff2be"), looks := true }, kinds := [], alts := [], laidByText := true, laidKinds := [.data, .data, .data, .sentinel, .sentinel, .data], laidTests := true, laidLooks := .later }
def NumberSlipUptoCardSaid : Prop := Claim7.holds Tryd.pinned (.plain (OpenSpec.upto numberSlipSpec)) numberSlipUptoCard
end Rows
end Go.Proofs.YtlicdeppfhmfjabDoor
