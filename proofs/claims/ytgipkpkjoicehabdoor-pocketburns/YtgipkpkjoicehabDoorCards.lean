/-
  DERIVED. GIVEN WITH THE SEED: THE CARDS: each row of YtgipkpkjoicehabDoorRows.lean that lists a variable, with what it lists TIED to the program's text (the seventh form; the later family's looks); each row that meets fmt, with fmt's text TOLD by the authors' own Lean function (tested against real Go, not proved from fmt's source: count such statements apart). THE CARD IS WHAT COUNTS. Prove the row's statement (the work); the ties are given (YtgipkpkjoicehabDoorTie.lean); close each card by the builder's one call (the guide's Derived/Test/ToyasCard.lean, 'card_holds'). Laid BY PROGRAM, IN A SANDBOX (cutbox-door.mjs). By AI agents, Wed Nov 11 2026. No macro, syntax, notation, axiom, sorry.
-/
import Derived.Test.YtgipkpkjoicehabDoorRows
import GoSem.ClaimSeven
namespace Go.Proofs.YtgipkpkjoicehabDoor
namespace Rows

/-- THE TIED CARD OF 'vendmeterkeep.PocketBurns'. -/
def pocketBurnsCard : Claim7 := { stood := { row := pocketBurnsRow, standIns := [], harness := (true, "84d3f92403823509e34caba5926cc64d3c234cf5855038686ec3977df75c2b3a"), looks := false }, kinds := [], alts := [], laidByText := true, laidKinds := [.data, .wider], laidTests := true, laidLooks := .later }
def PocketBurnsCardSaid : Prop := Claim7.holds Tryd.pinned (.plain (OpenSpec.ofChange pocketBurnsSpec)) pocketBurnsCard

/-- THE TIED CARD OF 'vendmeterkeep.PocketForged'. -/
def pocketForgedCard : Claim7 := { stood := { row := pocketForgedRow, standIns := [], harness := (true, "84d3f92403823509e34caba5926cc64d3c234cf5855038686ec3977df75c2b3a"), looks := false }, kinds := [], alts := [], laidByText := true, laidKinds := [.data, .wider], laidTests := true, laidLooks := .later }
def PocketForgedCardSaid : Prop := Claim7.holds Tryd.pinned (.plain (OpenSpec.ofChange pocketForgedSpec)) pocketForgedCard

/-- THE SECOND FORM's CARD OF 'vendmeterkeep.PocketBurns'. -/
def pocketBurnsUptoCard : Claim7 := { stood := { row := pocketBurnsUptoRow, standIns := [], harness := (true, "84d3f92403823509e34caba5926cc64d3c234cf5855038686ec3977df75c2b3a"), looks := false }, kinds := [], alts := [], laidByText := true, laidKinds := [.data, .wider], laidTests := true, laidLooks := .later }
def PocketBurnsUptoCardSaid : Prop := Claim7.holds Tryd.pinned (.plain (OpenSpec.upto pocketBurnsSpec)) pocketBurnsUptoCard

/-- THE SECOND FORM's CARD OF 'vendmeterkeep.PocketForged'. -/
def pocketForgedUptoCard : Claim7 := { stood := { row := pocketForgedUptoRow, standIns := [], harness := (true, "84d3f92403823509e34caba5926cc64d3c234cf5855038686ec3977df75c2b3a"), looks := false }, kinds := [], alts := [], laidByText := true, laidKinds := [.data, .wider], laidTests := true, laidLooks := .later }
def PocketForgedUptoCardSaid : Prop := Claim7.holds Tryd.pinned (.plain (OpenSpec.upto pocketForgedSpec)) pocketForgedUptoCard
end Rows
end Go.Proofs.YtgipkpkjoicehabDoor
