/-
  DERIVED. GIVEN WITH THE SEED: THE CARDS: each row of YtgipkpkjoicehaaDoorRows.lean that lists a variable, with what it lists TIED to the program's text (the seventh form; the later family's looks); each row that meets fmt, with fmt's text TOLD by the authors' own Lean function (tested against real Go, not proved from fmt's source: count such statements apart). THE CARD IS WHAT COUNTS. Prove the row's statement (the work); the ties are given (YtgipkpkjoicehaaDoorTie.lean); close each card by the builder's one call (the guide's Derived/Test/ToyasCard.lean, 'card_holds'). Laid BY PROGRAM, IN A SANDBOX (cutbox-door.mjs). By AI agents, Wed Nov 11 2026. No macro, syntax, notation, axiom, sorry.
-/
import Derived.Test.YtgipkpkjoicehaaDoorRows
import GoSem.ClaimSeven
namespace Go.Proofs.YtgipkpkjoicehaaDoor
namespace Rows

/-- THE TIED CARD OF 'vendmeterkeep.PocketCut'. -/
def pocketCutCard : Claim7 := { stood := { row := pocketCutRow, standIns := [], harness := (true, "004f6ba01e38de2d428d3632f47582536d7dae7a01bb562334a1895cf6eb95c5"), looks := false }, kinds := [], alts := [], laidByText := true, laidKinds := [.data, .wider], laidTests := true, laidLooks := .later }
def PocketCutCardSaid : Prop := Claim7.holds Tryd.pinned (.plain (OpenSpec.ofChange pocketCutSpec)) pocketCutCard

/-- THE TIED CARD OF 'vendmeterkeep.PocketRetry'. -/
def pocketRetryCard : Claim7 := { stood := { row := pocketRetryRow, standIns := [], harness := (true, "004f6ba01e38de2d428d3632f47582536d7dae7a01bb562334a1895cf6eb95c5"), looks := false }, kinds := [], alts := [], laidByText := true, laidKinds := [.data, .wider], laidTests := true, laidLooks := .later }
def PocketRetryCardSaid : Prop := Claim7.holds Tryd.pinned (.plain (OpenSpec.ofChange pocketRetrySpec)) pocketRetryCard

/-- THE SECOND FORM's CARD OF 'vendmeterkeep.PocketCut'. -/
def pocketCutUptoCard : Claim7 := { stood := { row := pocketCutUptoRow, standIns := [], harness := (true, "004f6ba01e38de2d428d3632f47582536d7dae7a01bb562334a1895cf6eb95c5"), looks := false }, kinds := [], alts := [], laidByText := true, laidKinds := [.data, .wider], laidTests := true, laidLooks := .later }
def PocketCutUptoCardSaid : Prop := Claim7.holds Tryd.pinned (.plain (OpenSpec.upto pocketCutSpec)) pocketCutUptoCard

/-- THE SECOND FORM's CARD OF 'vendmeterkeep.PocketRetry'. -/
def pocketRetryUptoCard : Claim7 := { stood := { row := pocketRetryUptoRow, standIns := [], harness := (true, "004f6ba01e38de2d428d3632f47582536d7dae7a01bb562334a1895cf6eb95c5"), looks := false }, kinds := [], alts := [], laidByText := true, laidKinds := [.data, .wider], laidTests := true, laidLooks := .later }
def PocketRetryUptoCardSaid : Prop := Claim7.holds Tryd.pinned (.plain (OpenSpec.upto pocketRetrySpec)) pocketRetryUptoCard
end Rows
end Go.Proofs.YtgipkpkjoicehaaDoor
