/-
  DERIVED. GIVEN WITH THE SEED: THE CARDS: each row of YtmpapnblpjnlmaaDoorRows.lean that lists a variable, with what it lists TIED to the program's text (the seventh form; the later family's looks); each row that meets fmt, with fmt's text TOLD by the authors' own Lean function (tested against real Go, not proved from fmt's source: count such statements apart). THE CARD IS WHAT COUNTS. Prove the row's statement (the work); the ties are given (YtmpapnblpjnlmaaDoorTie.lean); close each card by the builder's one call (the guide's Derived/Test/ToyasCard.lean, 'card_holds'). Laid BY PROGRAM, IN A SANDBOX (cutbox-door.mjs). By AI agents, Wed Nov 11 2026. No macro, syntax, notation, axiom, sorry.
-/
import Derived.Test.YtmpapnblpjnlmaaDoorRows
import GoSem.ClaimSeven
namespace Go.Proofs.YtmpapnblpjnlmaaDoor
namespace Rows

/-- THE TIED CARD OF 'vendmeterlaw.MeterKeys'. -/
def meterKeysCard : Claim7 := { stood := { row := meterKeysRow, standIns := [], harness := (true, "574e96a815f9e506397c5af84d13ac7ba448134a67f43d81a109abd68a868a13"), looks := false }, kinds := [], alts := [], laidByText := true, laidKinds := [.data, .wider], laidTests := true, laidLooks := .later }
def MeterKeysCardSaid : Prop := Claim7.holds Tryd.pinned (.plain (OpenSpec.ofChange meterKeysSpec)) meterKeysCard

/-- THE SECOND FORM's CARD OF 'vendmeterlaw.MeterKeys'. -/
def meterKeysUptoCard : Claim7 := { stood := { row := meterKeysUptoRow, standIns := [], harness := (true, "574e96a815f9e506397c5af84d13ac7ba448134a67f43d81a109abd68a868a13"), looks := false }, kinds := [], alts := [], laidByText := true, laidKinds := [.data, .wider], laidTests := true, laidLooks := .later }
def MeterKeysUptoCardSaid : Prop := Claim7.holds Tryd.pinned (.plain (OpenSpec.upto meterKeysSpec)) meterKeysUptoCard
end Rows
end Go.Proofs.YtmpapnblpjnlmaaDoor
