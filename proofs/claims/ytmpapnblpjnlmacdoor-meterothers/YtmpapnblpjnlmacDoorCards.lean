/-
  DERIVED. GIVEN WITH THE SEED: THE CARDS: each row of YtmpapnblpjnlmacDoorRows.lean that lists a variable, with what it lists TIED to the program's text (the seventh form; the later family's looks); each row that meets fmt, with fmt's text TOLD by the authors' own Lean function (tested against real Go, not proved from fmt's source: count such statements apart). THE CARD IS WHAT COUNTS. Prove the row's statement (the work); the ties are given (YtmpapnblpjnlmacDoorTie.lean); close each card by the builder's one call (the guide's Derived/Test/ToyasCard.lean, 'card_holds'). Laid BY PROGRAM, IN A SANDBOX (cutbox-door.mjs). By AI agents, Wed Nov 11 2026. No macro, syntax, notation, axiom, sorry.
-/
import Derived.Test.YtmpapnblpjnlmacDoorRows
import GoSem.ClaimSeven
namespace Go.Proofs.YtmpapnblpjnlmacDoor
namespace Rows

/-- THE TIED CARD OF 'vendmeterkeep.MeterOthers'. -/
def meterOthersCard : Claim7 := { stood := { row := meterOthersRow, standIns := [], harness := (true, "227a0b080705cbf620c994ed2e4d86a81a72327f46781eb94f73fd2cbedcbaec"), looks := false }, kinds := [], alts := [], laidByText := true, laidKinds := [.data, .wider], laidTests := true, laidLooks := .later }
def MeterOthersCardSaid : Prop := Claim7.holds Tryd.pinned (.plain (OpenSpec.ofChange meterOthersSpec)) meterOthersCard

/-- THE TIED CARD OF 'vendmeterkeep.MeterTurns'. -/
def meterTurnsCard : Claim7 := { stood := { row := meterTurnsRow, standIns := [], harness := (true, "227a0b080705cbf620c994ed2e4d86a81a72327f46781eb94f73fd2cbedcbaec"), looks := false }, kinds := [], alts := [], laidByText := true, laidKinds := [.data, .wider], laidTests := true, laidLooks := .later }
def MeterTurnsCardSaid : Prop := Claim7.holds Tryd.pinned (.plain (OpenSpec.ofChange meterTurnsSpec)) meterTurnsCard

/-- THE SECOND FORM's CARD OF 'vendmeterkeep.MeterOthers'. -/
def meterOthersUptoCard : Claim7 := { stood := { row := meterOthersUptoRow, standIns := [], harness := (true, "227a0b080705cbf620c994ed2e4d86a81a72327f46781eb94f73fd2cbedcbaec"), looks := false }, kinds := [], alts := [], laidByText := true, laidKinds := [.data, .wider], laidTests := true, laidLooks := .later }
def MeterOthersUptoCardSaid : Prop := Claim7.holds Tryd.pinned (.plain (OpenSpec.upto meterOthersSpec)) meterOthersUptoCard

/-- THE SECOND FORM's CARD OF 'vendmeterkeep.MeterTurns'. -/
def meterTurnsUptoCard : Claim7 := { stood := { row := meterTurnsUptoRow, standIns := [], harness := (true, "227a0b080705cbf620c994ed2e4d86a81a72327f46781eb94f73fd2cbedcbaec"), looks := false }, kinds := [], alts := [], laidByText := true, laidKinds := [.data, .wider], laidTests := true, laidLooks := .later }
def MeterTurnsUptoCardSaid : Prop := Claim7.holds Tryd.pinned (.plain (OpenSpec.upto meterTurnsSpec)) meterTurnsUptoCard
end Rows
end Go.Proofs.YtmpapnblpjnlmacDoor
