/-
  DERIVED. GIVEN WITH THE SEED: THE CARDS: each row of YtopbiamlmdpphabDoorRows.lean that lists a variable, with what it lists TIED to the program's text (the seventh form; the later family's looks); each row that meets fmt, with fmt's text TOLD by the authors' own Lean function (tested against real Go, not proved from fmt's source: count such statements apart). THE CARD IS WHAT COUNTS. Prove the row's statement (the work); the ties are given (YtopbiamlmdpphabDoorTie.lean); close each card by the builder's one call (the guide's Derived/Test/ToyasCard.lean, 'card_holds'). Laid BY PROGRAM, IN A SANDBOX (cutbox-door.mjs). By AI agents, Wed Nov 11 2026. No macro, syntax, notation, axiom, sorry.
-/
import Derived.Test.YtopbiamlmdpphabDoorRows
import GoSem.ClaimSeven
namespace Go.Proofs.YtopbiamlmdpphabDoor
namespace Rows

/-- THE TIED CARD OF 'vendmeterlaw.CheckDigits'. -/
def checkDigitsCard : Claim7 := { stood := { row := checkDigitsRow, standIns := [], harness := (true, "96a0849a17cb358cfb1c6f61cf283e84b7f0ef7d7e17e7570369ece67d572e6c"), looks := false }, kinds := [], alts := [], laidByText := true, laidKinds := [.data], laidTests := true, laidLooks := .later }
def CheckDigitsCardSaid : Prop := Claim7.holds Tryd.pinned (.plain (OpenSpec.ofChange checkDigitsSpec)) checkDigitsCard

/-- THE TIED CARD OF 'vendmeterlaw.CheckGoods'. -/
def checkGoodsCard : Claim7 := { stood := { row := checkGoodsRow, standIns := [], harness := (true, "96a0849a17cb358cfb1c6f61cf283e84b7f0ef7d7e17e7570369ece67d572e6c"), looks := false }, kinds := [], alts := [], laidByText := true, laidKinds := [.data], laidTests := true, laidLooks := .later }
def CheckGoodsCardSaid : Prop := Claim7.holds Tryd.pinned (.plain (OpenSpec.ofChange checkGoodsSpec)) checkGoodsCard

/-- THE SECOND FORM's CARD OF 'vendmeterlaw.CheckDigits'. -/
def checkDigitsUptoCard : Claim7 := { stood := { row := checkDigitsUptoRow, standIns := [], harness := (true, "96a0849a17cb358cfb1c6f61cf283e84b7f0ef7d7e17e7570369ece67d572e6c"), looks := false }, kinds := [], alts := [], laidByText := true, laidKinds := [.data], laidTests := true, laidLooks := .later }
def CheckDigitsUptoCardSaid : Prop := Claim7.holds Tryd.pinned (.plain (OpenSpec.upto checkDigitsSpec)) checkDigitsUptoCard

/-- THE SECOND FORM's CARD OF 'vendmeterlaw.CheckGoods'. -/
def checkGoodsUptoCard : Claim7 := { stood := { row := checkGoodsUptoRow, standIns := [], harness := (true, "96a0849a17cb358cfb1c6f61cf283e84b7f0ef7d7e17e7570369ece67d572e6c"), looks := false }, kinds := [], alts := [], laidByText := true, laidKinds := [.data], laidTests := true, laidLooks := .later }
def CheckGoodsUptoCardSaid : Prop := Claim7.holds Tryd.pinned (.plain (OpenSpec.upto checkGoodsSpec)) checkGoodsUptoCard
end Rows
end Go.Proofs.YtopbiamlmdpphabDoor
