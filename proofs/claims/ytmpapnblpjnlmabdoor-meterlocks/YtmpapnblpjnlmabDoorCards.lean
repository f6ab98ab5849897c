/-
  DERIVED. GIVEN WITH THE SEED: THE CARDS: each row of YtmpapnblpjnlmabDoorRows.lean that lists a variable, with what it lists TIED to the program's text (the seventh form; the later family's looks); each row that meets fmt, with fmt's text TOLD by the authors' own Lean function (tested against real Go, not proved from fmt's source: count such statements apart). THE CARD IS WHAT COUNTS. Prove the row's statement (the work); the ties are given (YtmpapnblpjnlmabDoorTie.lean); close each card by the builder's one call (the guide's Derived/Test/ToyasCard.lean, 'card_holds'). Laid BY PROGRAM, IN A SANDBOX (cutbox-door.mjs). By AI agents, Wed Nov 11 2026. No macro, syntax, notation, axiom, sorry.
-/
import Derived.Test.YtmpapnblpjnlmabDoorRows
import GoSem.ClaimSeven
namespace Go.Proofs.YtmpapnblpjnlmabDoor
namespace Rows

/-- THE TIED CARD OF 'vendmeterkeep.MeterAdds'. -/
def meterAddsCard : Claim7 := { stood := { row := meterAddsRow, standIns := [], harness := (true, "f5a8bea0ff34350610b342c1b826c39587bb4df0157f9a66e4ba00594648caa6"), looks := false }, kinds := [], alts := [], laidByText := true, laidKinds := [.data, .wider], laidTests := true, laidLooks := .later }
def MeterAddsCardSaid : Prop := Claim7.holds Tryd.pinned (.plain (OpenSpec.ofChange meterAddsSpec)) meterAddsCard

/-- THE TIED CARD OF 'vendmeterkeep.MeterOnce'. -/
def meterOnceCard : Claim7 := { stood := { row := meterOnceRow, standIns := [], harness := (true, "f5a8bea0ff34350610b342c1b826c39587bb4df0157f9a66e4ba00594648caa6"), looks := false }, kinds := [], alts := [], laidByText := true, laidKinds := [.data, .wider], laidTests := true, laidLooks := .later }
def MeterOnceCardSaid : Prop := Claim7.holds Tryd.pinned (.plain (OpenSpec.ofChange meterOnceSpec)) meterOnceCard

/-- THE TIED CARD OF 'vendmeterkeep.MeterRefuses'. -/
def meterRefusesCard : Claim7 := { stood := { row := meterRefusesRow, standIns := [], harness := (true, "f5a8bea0ff34350610b342c1b826c39587bb4df0157f9a66e4ba00594648caa6"), looks := false }, kinds := [], alts := [], laidByText := true, laidKinds := [.data, .wider], laidTests := true, laidLooks := .later }
def MeterRefusesCardSaid : Prop := Claim7.holds Tryd.pinned (.plain (OpenSpec.ofChange meterRefusesSpec)) meterRefusesCard

/-- THE TIED CARD OF 'vendmeterkeep.MeterLocks'. -/
def meterLocksCard : Claim7 := { stood := { row := meterLocksRow, standIns := [], harness := (true, "f5a8bea0ff34350610b342c1b826c39587bb4df0157f9a66e4ba00594648caa6"), looks := false }, kinds := [], alts := [], laidByText := true, laidKinds := [.data, .wider], laidTests := true, laidLooks := .later }
def MeterLocksCardSaid : Prop := Claim7.holds Tryd.pinned (.plain (OpenSpec.ofChange meterLocksSpec)) meterLocksCard

/-- THE SECOND FORM's CARD OF 'vendmeterkeep.MeterAdds'. -/
def meterAddsUptoCard : Claim7 := { stood := { row := meterAddsUptoRow, standIns := [], harness := (true, "f5a8bea0ff34350610b342c1b826c39587bb4df0157f9a66e4ba00594648caa6"), looks := false }, kinds := [], alts := [], laidByText := true, laidKinds := [.data, .wider], laidTests := true, laidLooks := .later }
def MeterAddsUptoCardSaid : Prop := Claim7.holds Tryd.pinned (.plain (OpenSpec.upto meterAddsSpec)) meterAddsUptoCard

/-- THE SECOND FORM's CARD OF 'vendmeterkeep.MeterOnce'. -/
def meterOnceUptoCard : Claim7 := { stood := { row := meterOnceUptoRow, standIns := [], harness := (true, "f5a8bea0ff34350610b342c1b826c39587bb4df0157f9a66e4ba00594648caa6"), looks := false }, kinds := [], alts := [], laidByText := true, laidKinds := [.data, .wider], laidTests := true, laidLooks := .later }
def MeterOnceUptoCardSaid : Prop := Claim7.holds Tryd.pinned (.plain (OpenSpec.upto meterOnceSpec)) meterOnceUptoCard

/-- THE SECOND FORM's CARD OF 'vendmeterkeep.MeterRefuses'. -/
def meterRefusesUptoCard : Claim7 := { stood := { row := meterRefusesUptoRow, standIns := [], harness := (true, "f5a8bea0ff34350610b342c1b826c39587bb4df0157f9a66e4ba00594648caa6"), looks := false }, kinds := [], alts := [], laidByText := true, laidKinds := [.data, .wider], laidTests := true, laidLooks := .later }
def MeterRefusesUptoCardSaid : Prop := Claim7.holds Tryd.pinned (.plain (OpenSpec.upto meterRefusesSpec)) meterRefusesUptoCard

/-- THE SECOND FORM's CARD OF 'vendmeterkeep.MeterLocks'. -/
def meterLocksUptoCard : Claim7 := { stood := { row := meterLocksUptoRow, standIns := [], harness := (true, "f5a8bea0ff34350610b342c1b826c39587bb4df0157f9a66e4ba00594648caa6"), looks := false }, kinds := [], alts := [], laidByText := true, laidKinds := [.data, .wider], laidTests := true, laidLooks := .later }
def MeterLocksUptoCardSaid : Prop := Claim7.holds Tryd.pinned (.plain (OpenSpec.upto meterLocksSpec)) meterLocksUptoCard
end Rows
end Go.Proofs.YtmpapnblpjnlmabDoor
