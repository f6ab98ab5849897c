/-
  DERIVED. GIVEN WITH THE SEED: THE CARDS: each row of YtopbiamlmdpphacDoorRows.lean that lists a variable, with what it lists TIED to the program's text (the seventh form; the later family's looks); each row that meets fmt, with fmt's text TOLD by the authors' own Lean function (tested against real Go, not proved from fmt's source: count such statements apart). THE CARD IS WHAT COUNTS. Prove the row's statement (the work); the ties are given (YtopbiamlmdpphacDoorTie.lean); close each card by the builder's one call (the guide's Derived/Test/ToyasCard.lean, 'card_holds'). Laid BY PROGRAM, IN A SANDBOX (cutbox-door.mjs). By AI agents, Wed Nov 11 2026. No macro, syntax, notation, axiom, sorry.
-/
import Derived.Test.YtopbiamlmdpphacDoorRows
import GoSem.ClaimSeven
namespace Go.Proofs.YtopbiamlmdpphacDoor
namespace Rows

/-- THE TIED CARD OF 'vendmeterkeep.CheckSlip'. -/
def checkSlipCard : Claim7 := { stood := { row := checkSlipRow, standIns := [], harness := (true, "d54bebeb99ec9ed82402a663ca6efeaf7f7ceab7d2b129d67f62a41f1bbc9b51"), looks := false }, kinds := [], alts := [], laidByText := true, laidKinds := [.data], laidTests := true, laidLooks := .later }
def CheckSlipCardSaid : Prop := Claim7.holds Tryd.pinned (.plain (OpenSpec.ofChange checkSlipSpec)) checkSlipCard

/-- THE TIED CARD OF 'vendmeterkeep.CheckSwap'. -/
def checkSwapCard : Claim7 := { stood := { row := checkSwapRow, standIns := [], harness := (true, "d54bebeb99ec9ed82402a663ca6efeaf7f7ceab7d2b129d67f62a41f1bbc9b51"), looks := false }, kinds := [], alts := [], laidByText := true, laidKinds := [.data], laidTests := true, laidLooks := .later }
def CheckSwapCardSaid : Prop := Claim7.holds Tryd.pinned (.plain (OpenSpec.ofChange checkSwapSpec)) checkSwapCard

/-- THE TIED CARD OF 'vendmeterkeep.CheckOne'. -/
def checkOneCard : Claim7 := { stood := { row := checkOneRow, standIns := [], harness := (true, "d54bebeb99ec9ed82402a663ca6efeaf7f7ceab7d2b129d67f62a41f1bbc9b51"), looks := false }, kinds := [], alts := [], laidByText := true, laidKinds := [.data], laidTests := true, laidLooks := .later }
def CheckOneCardSaid : Prop := Claim7.holds Tryd.pinned (.plain (OpenSpec.ofChange checkOneSpec)) checkOneCard

/-- THE SECOND FORM's CARD OF 'vendmeterkeep.CheckSlip'. -/
def checkSlipUptoCard : Claim7 := { stood := { row := checkSlipUptoRow, standIns := [], harness := (true, "d54bebeb99ec9ed82402a663ca6efeaf7f7ceab7d2b129d67f62a41f1bbc9b51"), looks := false }, kinds := [], alts := [], laidByText := true, laidKinds := [.data], laidTests := true, laidLooks := .later }
def CheckSlipUptoCardSaid : Prop := Claim7.holds Tryd.pinned (.plain (OpenSpec.upto checkSlipSpec)) checkSlipUptoCard

/-- THE SECOND FORM's CARD OF 'vendmeterkeep.CheckSwap'. -/
def checkSwapUptoCard : Claim7 := { stood := { row := checkSwapUptoRow, standIns := [], harness := (true, "d54bebeb99ec9ed82402a663ca6efeaf7f7ceab7d2b129d67f62a41f1bbc9b51"), looks := false }, kinds := [], alts := [], laidByText := true, laidKinds := [.data], laidTests := true, laidLooks := .later }
def CheckSwapUptoCardSaid : Prop := Claim7.holds Tryd.pinned (.plain (OpenSpec.upto checkSwapSpec)) checkSwapUptoCard

/-- THE SECOND FORM's CARD OF 'vendmeterkeep.CheckOne'. -/
def checkOneUptoCard : Claim7 := { stood := { row := checkOneUptoRow, standIns := [], harness := (true, "d54bebeb99ec9ed82402a663ca6efeaf7f7ceab7d2b129d67f62a41f1bbc9b51"), looks := false }, kinds := [], alts := [], laidByText := true, laidKinds := [.data], laidTests := true, laidLooks := .later }
def CheckOneUptoCardSaid : Prop := Claim7.holds Tryd.pinned (.plain (OpenSpec.upto checkOneSpec)) checkOneUptoCard
end Rows
end Go.Proofs.YtopbiamlmdpphacDoor
