/-
  DERIVED. GIVEN WITH THE SEED: THE CARDS: each row of YtegganhjlpachaaDoorRows.lean that lists a variable, with what it lists TIED to the program's text (the seventh form; the later family's looks); each row that meets fmt, with fmt's text TOLD by the authors' own Lean function (tested against real Go, not proved from fmt's source: count such statements apart). THE CARD IS WHAT COUNTS. Prove the row's statement (the work); the ties are given (YtegganhjlpachaaDoorTie.lean); close each card by the builder's one call (the guide's Derived/Test/ToyasCard.lean, 'card_holds'). Laid BY PROGRAM, IN A SANDBOX (cutbox-door.mjs). By AI agents, Wed Nov 11 2026. No macro, syntax, notation, axiom, sorry.
-/
import Derived.Test.YtegganhjlpachaaDoorRows
import GoSem.ClaimSeven
namespace Go.Proofs.YtegganhjlpachaaDoor
namespace Rows

/-- THE TIED CARD OF 'vendmeterlaw.CentsShows'. -/
def centsShowsCard : Claim7 := { stood := { row := centsShowsRow, standIns := [], harness := (true, "74699983bf6a2fb29d7ac46355f74c0fdbe802564223b9e43a249d45e0377dcc"), looks := false }, kinds := [], alts := [], laidByText := true, laidKinds := [.data, .data, .data], laidTests := true, laidLooks := .later }
def CentsShowsCardSaid : Prop := Claim7.holds Tryd.pinned (.plain (OpenSpec.ofChange centsShowsSpec)) centsShowsCard

/-- THE SECOND FORM's CARD OF 'vendmeterlaw.CentsShows'. -/
def centsShowsUptoCard : Claim7 := { stood := { row := centsShowsUptoRow, standIns := [], harness := (true, "74699983bf6a2fb29d7ac46355f74c0fdbe802564223b9e43a249d45e0377dcc"), looks := false }, kinds := [], alts := [], laidByText := true, laidKinds := [.data, .data, .data], laidTests := true, laidLooks := .later }
def CentsShowsUptoCardSaid : Prop := Claim7.holds Tryd.pinned (.plain (OpenSpec.upto centsShowsSpec)) centsShowsUptoCard
end Rows
end Go.Proofs.YtegganhjlpachaaDoor
