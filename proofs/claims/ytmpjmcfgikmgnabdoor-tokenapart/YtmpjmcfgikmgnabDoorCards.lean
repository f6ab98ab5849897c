/-
  DERIVED. GIVEN WITH THE SEED: THE CARDS: each row of YtmpjmcfgikmgnabDoorRows.lean that lists a variable, with what it lists TIED to the program's text (the seventh form; the later family's looks); each row that meets fmt, with fmt's text TOLD by the authors' own Lean function (tested against real Go, not proved from fmt's source: count such statements apart). THE CARD IS WHAT COUNTS. Prove the row's statement (the work); the ties are given (YtmpjmcfgikmgnabDoorTie.lean); close each card by the builder's one call (the guide's Derived/Test/ToyasCard.lean, 'card_holds'). Laid BY PROGRAM, IN A SANDBOX (cutbox-door.mjs). By AI agents, Wed Nov 11 2026. No macro, syntax, notation, axiom, sorry.
-/
import Derived.Test.YtmpjmcfgikmgnabDoorRows
import GoSem.ClaimSeven
namespace Go.Proofs.YtmpjmcfgikmgnabDoor
namespace Rows

/-- THE TIED CARD OF 'vendmeterkeep.TokenSlip'. -/
def tokenSlipCard : Claim7 := { stood := { row := tokenSlipRow, standIns := [], harness := (true, "f6486f535224064f8141d3f4b2a99602073b5b9c8f2a776e032a80e8b4b38037"), looks := false }, kinds := [], alts := [], laidByText := true, laidKinds := [.data, .wider], laidTests := true, laidLooks := .later }
def TokenSlipCardSaid : Prop := Claim7.holds Tryd.pinned (.plain (OpenSpec.ofChange tokenSlipSpec)) tokenSlipCard

/-- THE TIED CARD OF 'vendmeterkeep.TokenSwap'. -/
def tokenSwapCard : Claim7 := { stood := { row := tokenSwapRow, standIns := [], harness := (true, "f6486f535224064f8141d3f4b2a99602073b5b9c8f2a776e032a80e8b4b38037"), looks := false }, kinds := [], alts := [], laidByText := true, laidKinds := [.data, .wider], laidTests := true, laidLooks := .later }
def TokenSwapCardSaid : Prop := Claim7.holds Tryd.pinned (.plain (OpenSpec.ofChange tokenSwapSpec)) tokenSwapCard

/-- THE TIED CARD OF 'vendmeterkeep.TokenTwin'. -/
def tokenTwinCard : Claim7 := { stood := { row := tokenTwinRow, standIns := [], harness := (true, "f6486f535224064f8141d3f4b2a99602073b5b9c8f2a776e032a80e8b4b38037"), looks := false }, kinds := [], alts := [], laidByText := true, laidKinds := [.data, .wider], laidTests := true, laidLooks := .later }
def TokenTwinCardSaid : Prop := Claim7.holds Tryd.pinned (.plain (OpenSpec.ofChange tokenTwinSpec)) tokenTwinCard

/-- THE TIED CARD OF 'vendmeterkeep.TokenApart'. -/
def tokenApartCard : Claim7 := { stood := { row := tokenApartRow, standIns := [], harness := (true, "f6486f535224064f8141d3f4b2a99602073b5b9c8f2a776e032a80e8b4b38037"), looks := false }, kinds := [], alts := [], laidByText := true, laidKinds := [.data, .wider], laidTests := true, laidLooks := .later }
def TokenApartCardSaid : Prop := Claim7.holds Tryd.pinned (.plain (OpenSpec.ofChange tokenApartSpec)) tokenApartCard

/-- THE SECOND FORM's CARD OF 'vendmeterkeep.TokenSlip'. -/
def tokenSlipUptoCard : Claim7 := { stood := { row := tokenSlipUptoRow, standIns := [], harness := (true, "f6486f535224064f8141d3f4b2a99602073b5b9c8f2a776e032a80e8b4b38037"), looks := false }, kinds := [], alts := [], laidByText := true, laidKinds := [.data, .wider], laidTests := true, laidLooks := .later }
def TokenSlipUptoCardSaid : Prop := Claim7.holds Tryd.pinned (.plain (OpenSpec.upto tokenSlipSpec)) tokenSlipUptoCard

/-- THE SECOND FORM's CARD OF 'vendmeterkeep.TokenSwap'. -/
def tokenSwapUptoCard : Claim7 := { stood := { row := tokenSwapUptoRow, standIns := [], harness := (true, "f6486f535224064f8141d3f4b2a99602073b5b9c8f2a776e032a80e8b4b38037"), looks := false }, kinds := [], alts := [], laidByText := true, laidKinds := [.data, .wider], laidTests := true, laidLooks := .later }
def TokenSwapUptoCardSaid : Prop := Claim7.holds Tryd.pinned (.plain (OpenSpec.upto tokenSwapSpec)) tokenSwapUptoCard

/-- THE SECOND FORM's CARD OF 'vendmeterkeep.TokenTwin'. -/
def tokenTwinUptoCard : Claim7 := { stood := { row := tokenTwinUptoRow, standIns := [], harness := (true, "f6486f535224064f8141d3f4b2a99602073b5b9c8f2a776e032a80e8b4b38037"), looks := false }, kinds := [], alts := [], laidByText := true, laidKinds := [.data, .wider], laidTests := true, laidLooks := .later }
def TokenTwinUptoCardSaid : Prop := Claim7.holds Tryd.pinned (.plain (OpenSpec.upto tokenTwinSpec)) tokenTwinUptoCard

/-- THE SECOND FORM's CARD OF 'vendmeterkeep.TokenApart'. -/
def tokenApartUptoCard : Claim7 := { stood := { row := tokenApartUptoRow, standIns := [], harness := (true, "f6486f535224064f8141d3f4b2a99602073b5b9c8f2a776e032a80e8b4b38037"), looks := false }, kinds := [], alts := [], laidByText := true, laidKinds := [.data, .wider], laidTests := true, laidLooks := .later }
def TokenApartUptoCardSaid : Prop := Claim7.holds Tryd.pinned (.plain (OpenSpec.upto tokenApartSpec)) tokenApartUptoCard
end Rows
end Go.Proofs.YtmpjmcfgikmgnabDoor
