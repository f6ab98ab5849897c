/-
  DERIVED. GIVEN WITH THE SEED: THE CARDS: each row of YtlianhienbhbgaaDoorRows.lean that lists a variable, with what it lists TIED to the program's text (the seventh form; the later family's looks); each row that meets fmt, with fmt's text TOLD by the authors' own Lean function (tested against real Go, not proved from fmt's source: count such statements apart). THE CARD IS WHAT COUNTS. Prove the row's statement (the work); the ties are given (YtlianhienbhbgaaDoorTie.lean); close each card by the builder's one call (the guide's Derived/Test/ToyasCard.lean, 'card_holds'). Laid BY PROGRAM, IN A SANDBOX (cutbox-door.mjs). By AI agents, Wed Nov 11 2026. No macro, syntax, notation, axiom, sorry.
-/
import Derived.Test.YtlianhienbhbgaaDoorRows
import GoSem.ClaimSeven
namespace Go.Proofs.YtlianhienbhbgaaDoor
namespace Rows

/-- THE TIED CARD OF 'vendmeterlaw.OrderShows'. -/
def orderShowsCard : Claim7 := { stood := { row := orderShowsRow, standIns := [], harness := (true, "5629036a4c643fb7d839405367baab08451f92b60f77e9cdcc173c16c94f152d"), looks := true }, kinds := [], alts := [], laidByText := true, laidKinds := [.data, .data, .data, .data], laidTests := true, laidLooks := .later }
def OrderShowsCardSaid : Prop := Claim7.holds Tryd.pinned (.plain (OpenSpec.ofChange orderShowsSpec)) orderShowsCard

/-- THE TIED CARD OF 'vendmeterlaw.OrderReads'. -/
def orderReadsCard : Claim7 := { stood := { row := orderReadsRow, standIns := [], harness := (true, "5629036a4c643fb7d839405367baab08451f92b60f77e9cdcc173c16c94f152d"), looks := true }, kinds := [], alts := [], laidByText := true, laidKinds := [.data, .data, .data, .sentinel, .sentinel, .data], laidTests := true, laidLooks := .later }
def OrderReadsCardSaid : Prop := Claim7.holds Tryd.pinned (.plain (OpenSpec.ofChange orderReadsSpec)) orderReadsCard

/-- THE TIED CARD OF 'vendmeterkeep.OrderBack'. -/
def orderBackCard : Claim7 := { stood := { row := orderBackRow, standIns := [], harness := (true, "5629036a4c643fb7d839405367baab08451f92b60f77e9cdcc173c16c94f152d"), looks := true }, kinds := [], alts := [], laidByText := true, laidKinds := [.data, .data, .data, .sentinel, .sentinel, .data], laidTests := true, laidLooks := .later }
def OrderBackCardSaid : Prop := Claim7.holds Tryd.pinned (.plain (OpenSpec.ofChange orderBackSpec)) orderBackCard

/-- THE TIED CARD OF 'vendmeterkeep.OrderFixed'. -/
def orderFixedCard : Claim7 := { stood := { row := orderFixedRow, standIns := [], harness := (true, "5629036a4c643fb7d839405367baab08451f92b60f77e9cdcc173c16c94f152d"), looks := true }, kinds := [], alts := [], laidByText := true, laidKinds := [.data, .data, .data, .sentinel, .sentinel, .data], laidTests := true, laidLooks := .later }
def OrderFixedCardSaid : Prop := Claim7.holds Tryd.pinned (.plain (OpenSpec.ofChange orderFixedSpec)) orderFixedCard

/-- THE SECOND FORM's CARD OF 'vendmeterlaw.OrderShows'. -/
def orderShowsUptoCard : Claim7 := { stood := { row := orderShowsUptoRow, standIns := [], harness := (true, "5629036a4c643fb7d839405367baab08451f92b60f77e9cdcc173c16c94f152d"), looks := true }, kinds := [], alts := [], laidByText := true, laidKinds := [.data, .data, .data, .data], laidTests := true, laidLooks := .later }
def OrderShowsUptoCardSaid : Prop := Claim7.holds Tryd.pinned (.plain (OpenSpec.upto orderShowsSpec)) orderShowsUptoCard

/-- THE SECOND FORM's CARD OF 'vendmeterlaw.OrderReads'. -/
def orderReadsUptoCard : Claim7 := { stood := { row := orderReadsUptoRow, standIns := [], harness := (true, "5629036a4c643fb7d839405367baab08451f92b60f77e9cdcc173c16c94f152d"), looks := true }, kinds := [], alts := [], laidByText := true, laidKinds := [.data, .data, .data, .sentinel, .sentinel, .data], laidTests := true, laidLooks := .later }
def OrderReadsUptoCardSaid : Prop := Claim7.holds Tryd.pinned (.plain (OpenSpec.upto orderReadsSpec)) orderReadsUptoCard

/-- THE SECOND FORM's CARD OF 'vendmeterkeep.OrderBack'. -/
def orderBackUptoCard : Claim7 := { stood := { row := orderBackUptoRow, standIns := [], harness := (true, "5629036a4c643fb7d839405367baab08451f92b60f77e9cdcc173c16c94f152d"), looks := true }, kinds := [], alts := [], laidByText := true, laidKinds := [.data, .data, .data, .sentinel, .sentinel, .data], laidTests := true, laidLooks := .later }
def OrderBackUptoCardSaid : Prop := Claim7.holds Tryd.pinned (.plain (OpenSpec.upto orderBackSpec)) orderBackUptoCard

/-- THE SECOND FORM's CARD OF 'vendmeterkeep.OrderFixed'. -/
def orderFixedUptoCard : Claim7 := { stood := { row := orderFixedUptoRow, standIns := [], harness := (true, "5629036a4c643fb7d839405367baab08451f92b60f77e9cdcc173c16c94f152d"), looks := true }, kinds := [], alts := [], laidByText := true, laidKinds := [.data, .data, .data, .sentinel, .sentinel, .data], laidTests := true, laidLooks := .later }
def OrderFixedUptoCardSaid : Prop := Claim7.holds Tryd.pinned (.plain (OpenSpec.upto orderFixedSpec)) orderFixedUptoCard
end Rows
end Go.Proofs.YtlianhienbhbgaaDoor
