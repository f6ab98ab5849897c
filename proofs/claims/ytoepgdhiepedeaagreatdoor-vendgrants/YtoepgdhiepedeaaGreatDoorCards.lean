/-
  DERIVED. GIVEN WITH THE SEED: THE CARDS: each row of YtoepgdhiepedeaaGreatDoorRows.lean that lists a variable, with what it lists TIED to the program's text (the seventh form; the later family's looks); each row that meets fmt, with fmt's text TOLD by the authors' own Lean function (tested against real Go, not proved from fmt's source: count such statements apart). THE CARD IS WHAT COUNTS. Prove the row's statement (the work); the ties are given (YtoepgdhiepedeaaGreatDoorTie.lean); close each card by the builder's one call (the guide's Derived/Test/ToyasCard.lean, 'card_holds'). Laid BY PROGRAM, IN A SANDBOX (cutbox-door.mjs). By AI agents, Wed Nov 11 2026. No macro, syntax, notation, axiom, sorry.
-/
import Derived.Test.YtoepgdhiepedeaaGreatDoorRows
import GoSem.ClaimSeven
namespace Go.Proofs.YtoepgdhiepedeaaGreatDoor
namespace Rows

/-- THE TIED CARD OF 'vendmeterlaw.VendSells'. -/
def vendSellsCard : Claim7 := { stood := { row := vendSellsRow, standIns := [], harness := (true, "c738890b33bd500677429b3e842daf2742c8d1fcfcba6c13954f549cc4948f7f"), looks := true }, kinds := [], alts := [], laidByText := true, laidKinds := [.data, .wider], laidTests := true, laidLooks := .later }
def VendSellsCardSaid : Prop := Claim7.holds Tryz.pinned (.plain (OpenSpec.ofChange vendSellsSpec)) vendSellsCard

/-- THE TIED CARD OF 'vendmeterlaw.VendGrants'. -/
def vendGrantsCard : Claim7 := { stood := { row := vendGrantsRow, standIns := [], harness := (true, "c738890b33bd500677429b3e842daf2742c8d1fcfcba6c13954f549cc4948f7f"), looks := true }, kinds := [], alts := [], laidByText := true, laidKinds := [.data, .wider], laidTests := true, laidLooks := .later }
def VendGrantsCardSaid : Prop := Claim7.holds Tryz.pinned (.plain (OpenSpec.ofChange vendGrantsSpec)) vendGrantsCard

/-- THE TIED CARD OF 'vendmeterlaw.VendRekeys'. -/
def vendRekeysCard : Claim7 := { stood := { row := vendRekeysRow, standIns := [], harness := (true, "c738890b33bd500677429b3e842daf2742c8d1fcfcba6c13954f549cc4948f7f"), looks := true }, kinds := [], alts := [], laidByText := true, laidKinds := [.data, .wider], laidTests := true, laidLooks := .later }
def VendRekeysCardSaid : Prop := Claim7.holds Tryz.pinned (.plain (OpenSpec.ofChange vendRekeysSpec)) vendRekeysCard

/-- THE SECOND FORM's CARD OF 'vendmeterlaw.VendSells'. -/
def vendSellsUptoCard : Claim7 := { stood := { row := vendSellsUptoRow, standIns := [], harness := (true, "c738890b33bd500677429b3e842daf2742c8d1fcfcba6c13954f549cc4948f7f"), looks := true }, kinds := [], alts := [], laidByText := true, laidKinds := [.data, .wider], laidTests := true, laidLooks := .later }
def VendSellsUptoCardSaid : Prop := Claim7.holds Tryz.pinned (.plain (OpenSpec.upto vendSellsSpec)) vendSellsUptoCard

/-- THE SECOND FORM's CARD OF 'vendmeterlaw.VendGrants'. -/
def vendGrantsUptoCard : Claim7 := { stood := { row := vendGrantsUptoRow, standIns := [], harness := (true, "c738890b33bd500677429b3e842daf2742c8d1fcfcba6c13954f549cc4948f7f"), looks := true }, kinds := [], alts := [], laidByText := true, laidKinds := [.data, .wider], laidTests := true, laidLooks := .later }
def VendGrantsUptoCardSaid : Prop := Claim7.holds Tryz.pinned (.plain (OpenSpec.upto vendGrantsSpec)) vendGrantsUptoCard

/-- THE SECOND FORM's CARD OF 'vendmeterlaw.VendRekeys'. -/
def vendRekeysUptoCard : Claim7 := { stood := { row := vendRekeysUptoRow, standIns := [], harness := (true, "c738890b33bd500677429b3e842daf2742c8d1fcfcba6c13954f549cc4948f7f"), looks := true }, kinds := [], alts := [], laidByText := true, laidKinds := [.data, .wider], laidTests := true, laidLooks := .later }
def VendRekeysUptoCardSaid : Prop := Claim7.holds Tryz.pinned (.plain (OpenSpec.upto vendRekeysSpec)) vendRekeysUptoCard
end Rows
end Go.Proofs.YtoepgdhiepedeaaGreatDoor
