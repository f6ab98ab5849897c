/-
  DERIVED. GIVEN WITH THE SEED: THE CARDS: each row of YtdpfnedfakgolaaGreatDoorRows.lean that lists a variable, with what it lists TIED to the program's text (the seventh form; the later family's looks); each row that meets fmt, with fmt's text TOLD by the authors' own Lean function (tested against real Go, not proved from fmt's source: count such statements apart). THE CARD IS WHAT COUNTS. Prove the row's statement (the work); the ties are given (YtdpfnedfakgolaaGreatDoorTie.lean); close each card by the builder's one call (the guide's Derived/Test/ToyasCard.lean, 'card_holds'). Laid BY PROGRAM, IN A SANDBOX (cutbox-door.mjs). By AI agents, Wed Nov 11 2026. No macro, syntax, notation, axiom, sorry.
-/
import Derived.Test.YtdpfnedfakgolaaGreatDoorRows
import GoSem.ClaimSeven
namespace Go.Proofs.YtdpfnedfakgolaaGreatDoor
namespace Rows

/-- THE TIED CARD OF 'vendmeterkeep.VendPaper'. -/
def vendPaperCard : Claim7 := { stood := { row := vendPaperRow, standIns := [], harness := (true, "02d469d4a759ad0896655d59ba1e4bc80797a549c45ce959c38bcb9b7d50bfa2"), looks := true }, kinds := [], alts := [], laidByText := true, laidKinds := [.data, .wider], laidTests := true, laidLooks := .later }
def VendPaperCardSaid : Prop := Claim7.holds Tryz.pinned (.plain (OpenSpec.ofChange vendPaperSpec)) vendPaperCard

/-- THE TIED CARD OF 'vendmeterkeep.VendReprint'. -/
def vendReprintCard : Claim7 := { stood := { row := vendReprintRow, standIns := [], harness := (true, "02d469d4a759ad0896655d59ba1e4bc80797a549c45ce959c38bcb9b7d50bfa2"), looks := true }, kinds := [], alts := [], laidByText := true, laidKinds := [.data, .wider], laidTests := true, laidLooks := .later }
def VendReprintCardSaid : Prop := Claim7.holds Tryz.pinned (.plain (OpenSpec.ofChange vendReprintSpec)) vendReprintCard

/-- THE SECOND FORM's CARD OF 'vendmeterkeep.VendPaper'. -/
def vendPaperUptoCard : Claim7 := { stood := { row := vendPaperUptoRow, standIns := [], harness := (true, "02d469d4a759ad0896655d59ba1e4bc80797a549c45ce959c38bcb9b7d50bfa2"), looks := true }, kinds := [], alts := [], laidByText := true, laidKinds := [.data, .wider], laidTests := true, laidLooks := .later }
def VendPaperUptoCardSaid : Prop := Claim7.holds Tryz.pinned (.plain (OpenSpec.upto vendPaperSpec)) vendPaperUptoCard

/-- THE SECOND FORM's CARD OF 'vendmeterkeep.VendReprint'. -/
def vendReprintUptoCard : Claim7 := { stood := { row := vendReprintUptoRow, standIns := [], harness := (true, "02d469d4a759ad0896655d59ba1e4bc80797a549c45ce959c38bcb9b7d50bfa2"), looks := true }, kinds := [], alts := [], laidByText := true, laidKinds := [.data, .wider], laidTests := true, laidLooks := .later }
def VendReprintUptoCardSaid : Prop := Claim7.holds Tryz.pinned (.plain (OpenSpec.upto vendReprintSpec)) vendReprintUptoCard
end Rows
end Go.Proofs.YtdpfnedfakgolaaGreatDoor
