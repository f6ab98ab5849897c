/-
  DERIVED. GIVEN WITH THE SEED: THE CARDS: each row of YtkobdkkgkpgcbaaDoorRows.lean that lists a variable, with what it lists TIED to the program's text (the seventh form; the later family's looks); each row that meets fmt, with fmt's text TOLD by the authors' own Lean function (tested against real Go, not proved from fmt's source: count such statements apart). THE CARD IS WHAT COUNTS. Prove the row's statement (the work); the ties are given (YtkobdkkgkpgcbaaDoorTie.lean); close each card by the builder's one call (the guide's Derived/Test/ToyasCard.lean, 'card_holds'). Laid BY PROGRAM, IN A SANDBOX (cutbox-door.mjs). By AI agents, Wed Nov 11 2026. No macro, syntax, notation, axiom, sorry.
-/
import Derived.Test.YtkobdkkgkpgcbaaDoorRows
import GoSem.ClaimSeven
namespace Go.Proofs.YtkobdkkgkpgcbaaDoor
namespace Rows

/-- THE TIED CARD OF 'vendmeterlaw.PadPresses'. -/
def padPressesCard : Claim7 := { stood := { row := padPressesRow, standIns := [], harness := (true, "c191c608a9d800a20d7da80b03c91f25be9409f72a96e24d59bac045095f50f4"), looks := false }, kinds := [], alts := [], laidByText := true, laidKinds := [.data], laidTests := true, laidLooks := .later }
def PadPressesCardSaid : Prop := Claim7.holds Tryd.pinned (.plain (OpenSpec.ofChange padPressesSpec)) padPressesCard

/-- THE TIED CARD OF 'vendmeterlaw.PadKeys'. -/
def padKeysCard : Claim7 := { stood := { row := padKeysRow, standIns := [], harness := (true, "c191c608a9d800a20d7da80b03c91f25be9409f72a96e24d59bac045095f50f4"), looks := false }, kinds := [], alts := [], laidByText := true, laidKinds := [.data, .data, .pinned], laidTests := true, laidLooks := .later }
def PadKeysCardSaid : Prop := Claim7.holds Tryd.pinned (.plain (OpenSpec.ofChange padKeysSpec)) padKeysCard

/-- THE TIED CARD OF 'vendmeterkeep.PadPieces'. -/
def padPiecesCard : Claim7 := { stood := { row := padPiecesRow, standIns := [], harness := (true, "c191c608a9d800a20d7da80b03c91f25be9409f72a96e24d59bac045095f50f4"), looks := false }, kinds := [], alts := [], laidByText := true, laidKinds := [.data], laidTests := true, laidLooks := .later }
def PadPiecesCardSaid : Prop := Claim7.holds Tryd.pinned (.plain (OpenSpec.ofChange padPiecesSpec)) padPiecesCard

/-- THE TIED CARD OF 'vendmeterkeep.PadPlain'. -/
def padPlainCard : Claim7 := { stood := { row := padPlainRow, standIns := [], harness := (true, "c191c608a9d800a20d7da80b03c91f25be9409f72a96e24d59bac045095f50f4"), looks := false }, kinds := [], alts := [], laidByText := true, laidKinds := [.data], laidTests := true, laidLooks := .later }
def PadPlainCardSaid : Prop := Claim7.holds Tryd.pinned (.plain (OpenSpec.ofChange padPlainSpec)) padPlainCard

/-- THE TIED CARD OF 'vendmeterkeep.PadScripts'. -/
def padScriptsCard : Claim7 := { stood := { row := padScriptsRow, standIns := [], harness := (true, "c191c608a9d800a20d7da80b03c91f25be9409f72a96e24d59bac045095f50f4"), looks := false }, kinds := [], alts := [], laidByText := true, laidKinds := [.data], laidTests := true, laidLooks := .later }
def PadScriptsCardSaid : Prop := Claim7.holds Tryd.pinned (.plain (OpenSpec.ofChange padScriptsSpec)) padScriptsCard

/-- THE TIED CARD OF 'vendmeterkeep.PadUndo'. -/
def padUndoCard : Claim7 := { stood := { row := padUndoRow, standIns := [], harness := (true, "c191c608a9d800a20d7da80b03c91f25be9409f72a96e24d59bac045095f50f4"), looks := false }, kinds := [], alts := [], laidByText := true, laidKinds := [.data], laidTests := true, laidLooks := .later }
def PadUndoCardSaid : Prop := Claim7.holds Tryd.pinned (.plain (OpenSpec.ofChange padUndoSpec)) padUndoCard

/-- THE SECOND FORM's CARD OF 'vendmeterlaw.PadPresses'. -/
def padPressesUptoCard : Claim7 := { stood := { row := padPressesUptoRow, standIns := [], harness := (true, "c191c608a9d800a20d7da80b03c91f25be9409f72a96e24d59bac045095f50f4"), looks := false }, kinds := [], alts := [], laidByText := true, laidKinds := [.data], laidTests := true, laidLooks := .later }
def PadPressesUptoCardSaid : Prop := Claim7.holds Tryd.pinned (.plain (OpenSpec.upto padPressesSpec)) padPressesUptoCard

/-- THE SECOND FORM's CARD OF 'vendmeterlaw.PadKeys'. -/
def padKeysUptoCard : Claim7 := { stood := { row := padKeysUptoRow, standIns := [], harness := (true, "c191c608a9d800a20d7da80b03c91f25be9409f72a96e24d59bac045095f50f4"), looks := false }, kinds := [], alts := [], laidByText := true, laidKinds := [.data, .data, .pinned], laidTests := true, laidLooks := .later }
def PadKeysUptoCardSaid : Prop := Claim7.holds Tryd.pinned (.plain (OpenSpec.upto padKeysSpec)) padKeysUptoCard

/-- THE SECOND FORM's CARD OF 'vendmeterkeep.PadPieces'. -/
def padPiecesUptoCard : Claim7 := { stood := { row := padPiecesUptoRow, standIns := [], harness := (true, "c191c608a9d800a20d7da80b03c91f25be9409f72a96e24d59bac045095f50f4"), looks := false }, kinds := [], alts := [], laidByText := true, laidKinds := [.data], laidTests := true, laidLooks := .later }
def PadPiecesUptoCardSaid : Prop := Claim7.holds Tryd.pinned (.plain (OpenSpec.upto padPiecesSpec)) padPiecesUptoCard

/-- THE SECOND FORM's CARD OF 'vendmeterkeep.PadPlain'. -/
def padPlainUptoCard : Claim7 := { stood := { row := padPlainUptoRow, standIns := [], harness := (true, "c191c608a9d800a20d7da80b03c91f25be9409f72a96e24d59bac045095f50f4"), looks := false }, kinds := [], alts := [], laidByText := true, laidKinds := [.data], laidTests := true, laidLooks := .later }
def PadPlainUptoCardSaid : Prop := Claim7.holds Tryd.pinned (.plain (OpenSpec.upto padPlainSpec)) padPlainUptoCard

/-- THE SECOND FORM's CARD OF 'vendmeterkeep.PadScripts'. -/
def padScriptsUptoCard : Claim7 := { stood := { row := padScriptsUptoRow, standIns := [], harness := (true, "c191c608a9d800a20d7da80b03c91f25be9409f72a96e24d59bac045095f50f4"), looks := false }, kinds := [], alts := [], laidByText := true, laidKinds := [.data], laidTests := true, laidLooks := .later }
def PadScriptsUptoCardSaid : Prop := Claim7.holds Tryd.pinned (.plain (OpenSpec.upto padScriptsSpec)) padScriptsUptoCard

/-- THE SECOND FORM's CARD OF 'vendmeterkeep.PadUndo'. -/
def padUndoUptoCard : Claim7 := { stood := { row := padUndoUptoRow, standIns := [], harness := (true, "c191c608a9d800a20d7da80b03c91f25be9409f72a96e24d59bac045095f50f4"), looks := false }, kinds := [], alts := [], laidByText := true, laidKinds := [.data], laidTests := true, laidLooks := .later }
def PadUndoUptoCardSaid : Prop := Claim7.holds Tryd.pinned (.plain (OpenSpec.upto padUndoSpec)) padUndoUptoCard
end Rows
end Go.Proofs.YtkobdkkgkpgcbaaDoor
