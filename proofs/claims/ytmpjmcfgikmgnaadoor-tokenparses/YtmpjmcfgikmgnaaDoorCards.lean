/-
  DERIVED. GIVEN WITH THE SEED: THE CARDS: each row of YtmpjmcfgikmgnaaDoorRows.lean that lists a variable, with what it lists TIED to the program's text (the seventh form; the later family's looks); each row that meets fmt, with fmt's text TOLD by the authors' own Lean function (tested against real Go, not proved from fmt's source: count such statements apart). THE CARD IS WHAT COUNTS. Prove the row's statement (the work); the ties are given (YtmpjmcfgikmgnaaDoorTie.lean); close each card by the builder's one call (the guide's Derived/Test/ToyasCard.lean, 'card_holds'). Laid BY PROGRAM, IN A SANDBOX (cutbox-door.mjs). By AI agents, Wed Nov 11 2026. No macro, syntax, notation, axiom, sorry.
-/
import Derived.Test.YtmpjmcfgikmgnaaDoorRows
import GoSem.ClaimSeven
namespace Go.Proofs.YtmpjmcfgikmgnaaDoor
namespace Rows

/-- THE TIED CARD OF 'vendmeterlaw.TokenBodies'. -/
def tokenBodiesCard : Claim7 := { stood := { row := tokenBodiesRow, standIns := [], harness := (true, "6f646778a8a3b3effa5b3e5939f2a630efe53c385cc4edb0c95700e63e6b4e0d"), looks := false }, kinds := [], alts := [], laidByText := true, laidKinds := [.data, .wider], laidTests := true, laidLooks := .later }
def TokenBodiesCardSaid : Prop := Claim7.holds Tryd.pinned (.plain (OpenSpec.ofChange tokenBodiesSpec)) tokenBodiesCard

/-- THE TIED CARD OF 'vendmeterlaw.TokenNumbers'. -/
def tokenNumbersCard : Claim7 := { stood := { row := tokenNumbersRow, standIns := [], harness := (true, "6f646778a8a3b3effa5b3e5939f2a630efe53c385cc4edb0c95700e63e6b4e0d"), looks := false }, kinds := [], alts := [], laidByText := true, laidKinds := [.data, .wider], laidTests := true, laidLooks := .later }
def TokenNumbersCardSaid : Prop := Claim7.holds Tryd.pinned (.plain (OpenSpec.ofChange tokenNumbersSpec)) tokenNumbersCard

/-- THE TIED CARD OF 'vendmeterlaw.TokenFormats'. -/
def tokenFormatsCard : Claim7 := { stood := { row := tokenFormatsRow, standIns := [], harness := (true, "6f646778a8a3b3effa5b3e5939f2a630efe53c385cc4edb0c95700e63e6b4e0d"), looks := false }, kinds := [], alts := [], laidByText := true, laidKinds := [.data, .wider], laidTests := true, laidLooks := .later }
def TokenFormatsCardSaid : Prop := Claim7.holds Tryd.pinned (.plain (OpenSpec.ofChange tokenFormatsSpec)) tokenFormatsCard

/-- THE TIED CARD OF 'vendmeterlaw.TokenParses'. -/
def tokenParsesCard : Claim7 := { stood := { row := tokenParsesRow, standIns := [], harness := (true, "6f646778a8a3b3effa5b3e5939f2a630efe53c385cc4edb0c95700e63e6b4e0d"), looks := false }, kinds := [], alts := [], laidByText := true, laidKinds := [.data, .wider], laidTests := true, laidLooks := .later }
def TokenParsesCardSaid : Prop := Claim7.holds Tryd.pinned (.plain (OpenSpec.ofChange tokenParsesSpec)) tokenParsesCard

/-- THE TIED CARD OF 'vendmeterkeep.TokenBack'. -/
def tokenBackCard : Claim7 := { stood := { row := tokenBackRow, standIns := [], harness := (true, "6f646778a8a3b3effa5b3e5939f2a630efe53c385cc4edb0c95700e63e6b4e0d"), looks := false }, kinds := [], alts := [], laidByText := true, laidKinds := [.data, .wider], laidTests := true, laidLooks := .later }
def TokenBackCardSaid : Prop := Claim7.holds Tryd.pinned (.plain (OpenSpec.ofChange tokenBackSpec)) tokenBackCard

/-- THE TIED CARD OF 'vendmeterkeep.TokenFixed'. -/
def tokenFixedCard : Claim7 := { stood := { row := tokenFixedRow, standIns := [], harness := (true, "6f646778a8a3b3effa5b3e5939f2a630efe53c385cc4edb0c95700e63e6b4e0d"), looks := false }, kinds := [], alts := [], laidByText := true, laidKinds := [.data, .wider], laidTests := true, laidLooks := .later }
def TokenFixedCardSaid : Prop := Claim7.holds Tryd.pinned (.plain (OpenSpec.ofChange tokenFixedSpec)) tokenFixedCard

/-- THE SECOND FORM's CARD OF 'vendmeterlaw.TokenBodies'. -/
def tokenBodiesUptoCard : Claim7 := { stood := { row := tokenBodiesUptoRow, standIns := [], harness := (true, "6f646778a8a3b3effa5b3e5939f2a630efe53c385cc4edb0c95700e63e6b4e0d"), looks := false }, kinds := [], alts := [], laidByText := true, laidKinds := [.data, .wider], laidTests := true, laidLooks := .later }
def TokenBodiesUptoCardSaid : Prop := Claim7.holds Tryd.pinned (.plain (OpenSpec.upto tokenBodiesSpec)) tokenBodiesUptoCard

/-- THE SECOND FORM's CARD OF 'vendmeterlaw.TokenNumbers'. -/
def tokenNumbersUptoCard : Claim7 := { stood := { row := tokenNumbersUptoRow, standIns := [], harness := (true, "6f646778a8a3b3effa5b3e5939f2a630efe53c385cc4edb0c95700e63e6b4e0d"), looks := false }, kinds := [], alts := [], laidByText := true, laidKinds := [.data, .wider], laidTests := true, laidLooks := .later }
def TokenNumbersUptoCardSaid : Prop := Claim7.holds Tryd.pinned (.plain (OpenSpec.upto tokenNumbersSpec)) tokenNumbersUptoCard

/-- THE SECOND FORM's CARD OF 'vendmeterlaw.TokenFormats'. -/
def tokenFormatsUptoCard : Claim7 := { stood := { row := tokenFormatsUptoRow, standIns := [], harness := (true, "6f646778a8a3b3effa5b3e5939f2a630efe53c385cc4edb0c95700e63e6b4e0d"), looks := false }, kinds := [], alts := [], laidByText := true, laidKinds := [.data, .wider], laidTests := true, laidLooks := .later }
def TokenFormatsUptoCardSaid : Prop := Claim7.holds Tryd.pinned (.plain (OpenSpec.upto tokenFormatsSpec)) tokenFormatsUptoCard

/-- THE SECOND FORM's CARD OF 'vendmeterlaw.TokenParses'. -/
def tokenParsesUptoCard : Claim7 := { stood := { row := tokenParsesUptoRow, standIns := [], harness := (true, "6f646778a8a3b3effa5b3e5939f2a630efe53c385cc4edb0c95700e63e6b4e0d"), looks := false }, kinds := [], alts := [], laidByText := true, laidKinds := [.data, .wider], laidTests := true, laidLooks := .later }
def TokenParsesUptoCardSaid : Prop := Claim7.holds Tryd.pinned (.plain (OpenSpec.upto tokenParsesSpec)) tokenParsesUptoCard

/-- THE SECOND FORM's CARD OF 'vendmeterkeep.TokenBack'. -/
def tokenBackUptoCard : Claim7 := { stood := { row := tokenBackUptoRow, standIns := [], harness := (true, "6f646778a8a3b3effa5b3e5939f2a630efe53c385cc4edb0c95700e63e6b4e0d"), looks := false }, kinds := [], alts := [], laidByText := true, laidKinds := [.data, .wider], laidTests := true, laidLooks := .later }
def TokenBackUptoCardSaid : Prop := Claim7.holds Tryd.pinned (.plain (OpenSpec.upto tokenBackSpec)) tokenBackUptoCard

/-- THE SECOND FORM's CARD OF 'vendmeterkeep.TokenFixed'. -/
def tokenFixedUptoCard : Claim7 := { stood := { row := tokenFixedUptoRow, standIns := [], harness := (true, "6f646778a8a3b3effa5b3e5939f2a630efe53c385cc4edb0c95700e63e6b4e0d"), looks := false }, kinds := [], alts := [], laidByText := true, laidKinds := [.data, .wider], laidTests := true, laidLooks := .later }
def TokenFixedUptoCardSaid : Prop := Claim7.holds Tryd.pinned (.plain (OpenSpec.upto tokenFixedSpec)) tokenFixedUptoCard
end Rows
end Go.Proofs.YtmpjmcfgikmgnaaDoor
