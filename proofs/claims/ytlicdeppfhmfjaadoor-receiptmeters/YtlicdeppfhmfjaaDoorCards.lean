/-
  DERIVED. GIVEN WITH THE SEED: THE CARDS: each row of YtlicdeppfhmfjaaDoorRows.lean that lists a variable, with what it lists TIED to the program's text (the seventh form; the later family's looks); each row that meets fmt, with fmt's text TOLD by the authors' own Lean function (tested against real Go, not proved from fmt's source: count such statements apart). THE CARD IS WHAT COUNTS. Prove the row's statement (the work); the ties are given (YtlicdeppfhmfjaaDoorTie.lean); close each card by the builder's one call (the guide's Derived/Test/ToyasCard.lean, 'card_holds'). Laid BY PROGRAM, IN A SANDBOX (cutbox-door.mjs). By AI agents, Wed Nov 11 2026. No macro, syntax, notation, axiom, sorry.
-/
import Derived.Test.YtlicdeppfhmfjaaDoorRows
import GoSem.ClaimSeven
namespace Go.Proofs.YtlicdeppfhmfjaaDoor
namespace Rows

/-- THE TIED CARD OF 'vendmeterlaw.ReceiptNumbers'. -/
def receiptNumbersCard : Claim7 := { stood := { row := receiptNumbersRow, standIns := [], harness := (true, "0859ada359c497606cf98b2af9e5bc7f420b6a8918f22365e5ccb23592a8dfea"), looks := true }, kinds := [], alts := [], laidByText := true, laidKinds := [.data, .data, .data, .data], laidTests := true, laidLooks := .later }
def ReceiptNumbersCardSaid : Prop := Claim7.holds Tryd.pinned (.plain (OpenSpec.ofChange receiptNumbersSpec)) receiptNumbersCard

/-- THE TIED CARD OF 'vendmeterlaw.ReceiptMeters'. -/
def receiptMetersCard : Claim7 := { stood := { row := receiptMetersRow, standIns := [], harness := (true, "0859ada359c497606cf98b2af9e5bc7f420b6a8918f22365e5ccb23592a8dfea"), looks := true }, kinds := [], alts := [], laidByText := true, laidKinds := [.data, .data, .data, .sentinel, .sentinel, .data], laidTests := true, laidLooks := .later }
def ReceiptMetersCardSaid : Prop := Claim7.holds Tryd.pinned (.plain (OpenSpec.ofChange receiptMetersSpec)) receiptMetersCard

/-- THE TIED CARD OF 'vendmeterlaw.ReceiptChecks'. -/
def receiptChecksCard : Claim7 := { stood := { row := receiptChecksRow, standIns := [], harness := (true, "0859ada359c497606cf98b2af9e5bc7f420b6a8918f22365e5ccb23592a8dfea"), looks := true }, kinds := [], alts := [], laidByText := true, laidKinds := [.data, .wider], laidTests := true, laidLooks := .later }
def ReceiptChecksCardSaid : Prop := Claim7.holds Tryd.pinned (.plain (OpenSpec.ofChange receiptChecksSpec)) receiptChecksCard

/-- THE SECOND FORM's CARD OF 'vendmeterlaw.ReceiptNumbers'. -/
def receiptNumbersUptoCard : Claim7 := { stood := { row := receiptNumbersUptoRow, standIns := [], harness := (true, "0859ada359c497606cf98b2af9e5bc7f420b6a8918f22365e5ccb23592a8dfea"), looks := true }, kinds := [], alts := [], laidByText := true, laidKinds := [.data, .data, .data, .data], laidTests := true, laidLooks := .later }
def ReceiptNumbersUptoCardSaid : Prop := Claim7.holds Tryd.pinned (.plain (OpenSpec.upto receiptNumbersSpec)) receiptNumbersUptoCard

/-- THE SECOND FORM's CARD OF 'vendmeterlaw.ReceiptMeters'. -/
def receiptMetersUptoCard : Claim7 := { stood := { row := receiptMetersUptoRow, standIns := [], harness := (true, "0859ada359c497606cf98b2af9e5bc7f420b6a8918f22365e5ccb23592a8dfea"), looks := true }, kinds := [], alts := [], laidByText := true, laidKinds := [.data, .data, .data, .sentinel, .sentinel, .data], laidTests := true, laidLooks := .later }
def ReceiptMetersUptoCardSaid : Prop := Claim7.holds Tryd.pinned (.plain (OpenSpec.upto receiptMetersSpec)) receiptMetersUptoCard

/-- THE SECOND FORM's CARD OF 'vendmeterlaw.ReceiptChecks'. -/
def receiptChecksUptoCard : Claim7 := { stood := { row := receiptChecksUptoRow, standIns := [], harness := (true, "0859ada359c497606cf98b2af9e5bc7f420b6a8918f22365e5ccb23592a8dfea"), looks := true }, kinds := [], alts := [], laidByText := true, laidKinds := [.data, .wider], laidTests := true, laidLooks := .later }
def ReceiptChecksUptoCardSaid : Prop := Claim7.holds Tryd.pinned (.plain (OpenSpec.upto receiptChecksSpec)) receiptChecksUptoCard
end Rows
end Go.Proofs.YtlicdeppfhmfjaaDoor
