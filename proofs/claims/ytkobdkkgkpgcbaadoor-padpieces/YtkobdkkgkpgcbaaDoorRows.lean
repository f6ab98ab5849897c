/-
  NARROWER THAN 'FOR EVERY INPUT', by the rows' own cells (each row's printed sentence says how): PadPresses: laid · PadKeys: laid · PadPieces: laid · PadPlain: laid · PadScripts: laid · PadUndo: laid.
  DERIVED. THE GIVEN ROWS OF THIS SEAT. 6 by the template 'for every input the law returns true; each argument reads behind the call as it read before'; 0 by the template 'total and deterministic' (their statements: YtkobdkkgkpgcbaaDoorTotals.lean).
  GIVEN WITH THE SEED: the statements are not yours to turn. If you find one false, say at which input.
  Laid BY PROGRAM, IN A SANDBOX (cutbox-rows.mjs): the forced cells as the released guide's own fill.sh prints them over the translation 5bd4a88024fc682e… (all of the seat's roots in one cut). By AI agents, Wed Nov 11 2026. No macro, syntax, notation, axiom, sorry.
-/
import Derived.Test.YtkobdkkgkpgcbaaDoorChecked
import GoSem.PinnedTables
import GoSem.Claim
import GoSem.ClaimJoined
import GoSem.ClaimMapViews
import Derived.JoinedTies
import Derived.KernelRfl
namespace Go.Proofs.YtkobdkkgkpgcbaaDoor
/- THE CELL 'sum', in the pinned program and in every row, IS THE sha256 OF THE DUMP (.gsa) THAT YtkobdkkgkpgcbaaDoorProg.lean LOADS. Nothing in Lean hashes anything: it is a label: what it is worth is what the hold of that sum in a sandbox is worth. -/
noncomputable def Tryd.pinned : Pinned := { name := "ytkobdkkgkpgcbaadoor", sum := "5bd4a88024fc682e16cdc5ff8f0066525e8f47b194a865edba01a1a6480fe5d4", checked := Tryd.checked }
namespace Rows
def none {H : Type} : Left H := { results := [], args := [] }

/- WHAT THE LISTED PACKAGE-LEVEL VARIABLES READ AS WHEN THE CALL BEGINS. Each datum BY PROGRAM (the guide's laid-datum.mjs) off the statement by which the dump's own 'gosem.cut.vars' lays the variable. In a bare row this is a premise. The card (YtkobdkkgkpgcbaaDoorCards.lean) ties it to the program's text. -/
def laid_vendmeter_keypad_noughts {H : Type} : DataW H := .agg [.lit (.int .i32 48), .lit (.int .i32 1632), .lit (.int .i32 1776), .lit (.int .i32 2406), .lit (.int .i32 2534), .lit (.int .i32 65296)]
def laid_unicode_utf8_acceptRanges {H : Type} : DataW H := .agg [.agg [.lit (.int .u8 128), .lit (.int .u8 191)], .agg [.lit (.int .u8 160), .lit (.int .u8 191)], .agg [.lit (.int .u8 128), .lit (.int .u8 159)], .agg [.lit (.int .u8 144), .lit (.int .u8 191)], .agg [.lit (.int .u8 128), .lit (.int .u8 143)], .agg [.lit (.int .u8 0), .lit (.int .u8 0)], .agg [.lit (.int .u8 0), .lit (.int .u8 0)], .agg [.lit (.int .u8 0), .lit (.int .u8 0)], .agg [.lit (.int .u8 0), .lit (.int .u8 0)], .agg [.lit (.int .u8 0), .lit (.int .u8 0)], .agg [.lit (.int .u8 0), .lit (.int .u8 0)], .agg [.lit (.int .u8 0), .lit (.int .u8 0)], .agg [.lit (.int .u8 0), .lit (.int .u8 0)], .agg [.lit (.int .u8 0), .lit (.int .u8 0)], .agg [.lit (.int .u8 0), .lit (.int .u8 0)], .agg [.lit (.int .u8 0), .lit (.int .u8 0)]]
/-- One of Go's own tables, pinned by name: the form's constant. -/
def laid_unicode_utf8_first : DataW Unit := Go.Pinned.utf8First

/-- 'vendmeterlaw.PadPresses': WHATEVER THE INPUT: true; the input reads as it did. -/
def padPressesSpec : ChangeSpec := { name := "padPresses", fn := fun _ => fun
  | [d1, d2] => { results := [.lit (.bool true)], args := [d1, d2] }
  | _ => none }
def padPressesRow : OpenClaim := { program := "ytkobdkkgkpgcbaadoor", sum := "5bd4a88024fc682e16cdc5ff8f0066525e8f47b194a865edba01a1a6480fe5d4", func := "vendmeter/vendmeterlaw.PadPresses", spec := "padPresses", recurses := true, named := ["vendmeter/keypad.noughts"], apart := false, laid := [("vendmeter/keypad.noughts", laid_vendmeter_keypad_noughts)] }
def PadPressesSaid : Prop := padPressesRow.holds Tryd.pinned (OpenSpec.ofChange padPressesSpec)

/-- ITS FALSE NEIGHBOUR: 'it returns false'. Refute it at one input. -/
def padPressesWrong : ChangeSpec := { name := "padPresses", fn := fun _ => fun
  | [d1, d2] => { results := [.lit (.bool false)], args := [d1, d2] }
  | _ => none }
def PadPressesWrongFalsely : Prop := padPressesRow.holds Tryd.pinned (OpenSpec.ofChange padPressesWrong)

/-- 'vendmeterlaw.PadKeys': WHATEVER THE INPUT: true; the input reads as it did. -/
def padKeysSpec : ChangeSpec := { name := "padKeys", fn := fun _ => fun
  | [d] => { results := [.lit (.bool true)], args := [d] }
  | _ => none }
def padKeysRow : OpenClaim := { program := "ytkobdkkgkpgcbaadoor", sum := "5bd4a88024fc682e16cdc5ff8f0066525e8f47b194a865edba01a1a6480fe5d4", func := "vendmeter/vendmeterlaw.PadKeys", spec := "padKeys", recurses := true, named := ["vendmeter/keypad.noughts", "unicode/utf8.first", "unicode/utf8.acceptRanges"], apart := false, laid := [("unicode/utf8.acceptRanges", laid_unicode_utf8_acceptRanges), ("vendmeter/keypad.noughts", laid_vendmeter_keypad_noughts), ("unicode/utf8.first", laid_unicode_utf8_first)] }
def PadKeysSaid : Prop := padKeysRow.holds Tryd.pinned (OpenSpec.ofChange padKeysSpec)

/-- ITS FALSE NEIGHBOUR: 'it returns false'. Refute it at one input. -/
def padKeysWrong : ChangeSpec := { name := "padKeys", fn := fun _ => fun
  | [d] => { results := [.lit (.bool false)], args := [d] }
  | _ => none }
def PadKeysWrongFalsely : Prop := padKeysRow.holds Tryd.pinned (OpenSpec.ofChange padKeysWrong)

/-- 'vendmeterkeep.PadPieces': WHATEVER THE INPUT: true; the input reads as it did. -/
def padPiecesSpec : ChangeSpec := { name := "padPieces", fn := fun _ => fun
  | [d1, d2] => { results := [.lit (.bool true)], args := [d1, d2] }
  | _ => none }
def padPiecesRow : OpenClaim := { program := "ytkobdkkgkpgcbaadoor", sum := "5bd4a88024fc682e16cdc5ff8f0066525e8f47b194a865edba01a1a6480fe5d4", func := "vendmeter/vendmeterkeep.PadPieces", spec := "padPieces", named := ["vendmeter/keypad.noughts"], apart := false, laid := [("vendmeter/keypad.noughts", laid_vendmeter_keypad_noughts)] }
def PadPiecesSaid : Prop := padPiecesRow.holds Tryd.pinned (OpenSpec.ofChange padPiecesSpec)

/-- ITS FALSE NEIGHBOUR: 'it returns false'. Refute it at one input. -/
def padPiecesWrong : ChangeSpec := { name := "padPieces", fn := fun _ => fun
  | [d1, d2] => { results := [.lit (.bool false)], args := [d1, d2] }
  | _ => none }
def PadPiecesWrongFalsely : Prop := padPiecesRow.holds Tryd.pinned (OpenSpec.ofChange padPiecesWrong)

/-- 'vendmeterkeep.PadPlain': WHATEVER THE INPUT: true; the input reads as it did. -/
def padPlainSpec : ChangeSpec := { name := "padPlain", fn := fun _ => fun
  | [d] => { results := [.lit (.bool true)], args := [d] }
  | _ => none }
def padPlainRow : OpenClaim := { program := "ytkobdkkgkpgcbaadoor", sum := "5bd4a88024fc682e16cdc5ff8f0066525e8f47b194a865edba01a1a6480fe5d4", func := "vendmeter/vendmeterkeep.PadPlain", spec := "padPlain", named := ["vendmeter/keypad.noughts"], apart := false, laid := [("vendmeter/keypad.noughts", laid_vendmeter_keypad_noughts)] }
def PadPlainSaid : Prop := padPlainRow.holds Tryd.pinned (OpenSpec.ofChange padPlainSpec)

/-- ITS FALSE NEIGHBOUR: 'it returns false'. Refute it at one input. -/
def padPlainWrong : ChangeSpec := { name := "padPlain", fn := fun _ => fun
  | [d] => { results := [.lit (.bool false)], args := [d] }
  | _ => none }
def PadPlainWrongFalsely : Prop := padPlainRow.holds Tryd.pinned (OpenSpec.ofChange padPlainWrong)

/-- 'vendmeterkeep.PadScripts': WHATEVER THE INPUT: true; the input reads as it did. -/
def padScriptsSpec : ChangeSpec := { name := "padScripts", fn := fun _ => fun
  | [d1, d2] => { results := [.lit (.bool true)], args := [d1, d2] }
  | _ => none }
def padScriptsRow : OpenClaim := { program := "ytkobdkkgkpgcbaadoor", sum := "5bd4a88024fc682e16cdc5ff8f0066525e8f47b194a865edba01a1a6480fe5d4", func := "vendmeter/vendmeterkeep.PadScripts", spec := "padScripts", named := ["vendmeter/keypad.noughts"], apart := false, laid := [("vendmeter/keypad.noughts", laid_vendmeter_keypad_noughts)] }
def PadScriptsSaid : Prop := padScriptsRow.holds Tryd.pinned (OpenSpec.ofChange padScriptsSpec)

/-- ITS FALSE NEIGHBOUR: 'it returns false'. Refute it at one input. -/
def padScriptsWrong : ChangeSpec := { name := "padScripts", fn := fun _ => fun
  | [d1, d2] => { results := [.lit (.bool false)], args := [d1, d2] }
  | _ => none }
def PadScriptsWrongFalsely : Prop := padScriptsRow.holds Tryd.pinned (OpenSpec.ofChange padScriptsWrong)

/-- 'vendmeterkeep.PadUndo': WHATEVER THE INPUT: true; the input reads as it did. -/
def padUndoSpec : ChangeSpec := { name := "padUndo", fn := fun _ => fun
  | [d1, d2, d3, d4, d5] => { results := [.lit (.bool true)], args := [d1, d2, d3, d4, d5] }
  | _ => none }
def padUndoRow : OpenClaim := { program := "ytkobdkkgkpgcbaadoor", sum := "5bd4a88024fc682e16cdc5ff8f0066525e8f47b194a865edba01a1a6480fe5d4", func := "vendmeter/vendmeterkeep.PadUndo", spec := "padUndo", named := ["vendmeter/keypad.noughts"], apart := false, laid := [("vendmeter/keypad.noughts", laid_vendmeter_keypad_noughts)] }
def PadUndoSaid : Prop := padUndoRow.holds Tryd.pinned (OpenSpec.ofChange padUndoSpec)

/-- ITS FALSE NEIGHBOUR: 'it returns false'. Refute it at one input. -/
def padUndoWrong : ChangeSpec := { name := "padUndo", fn := fun _ => fun
  | [d1, d2, d3, d4, d5] => { results := [.lit (.bool false)], args := [d1, d2, d3, d4, d5] }
  | _ => none }
def PadUndoWrongFalsely : Prop := padUndoRow.holds Tryd.pinned (OpenSpec.ofChange padUndoWrong)

/- THE SECOND FORM. 'bulk': how many values and letters a reading holds, each counted each time it is reached (what is shared counts as often as it is met; a slice's spare places count too). A statement '..UptoSaid' is the law's where the arguments, and the package variables that the reading takes, are together of bulk at most 1048576: NARROWER than '..Said'. Prove '..Said' where nothing that the law and all that it calls make is longer than what came in: it says more and counts as full. Else prove '..UptoSaid'. A law counts once. -/
mutual
def uptoBulk {H : Type} : DataW H → Nat
  | .lit (.string bytes) => bytes.length + 1
  | .lit _ => 1
  | .nil => 1
  | .ptr d => uptoBulk d + 1
  | .slice elems spare => uptoBulkAll elems + uptoBulkAll spare + 1
  | .agg parts => uptoBulkAll parts + 1
  | .iface _ d => uptoBulk d + 1
  | .map entries => uptoBulkEntries entries + 1
  | .held _ => 1
def uptoBulkAll {H : Type} : List (DataW H) → Nat
  | [] => 0
  | d :: r => uptoBulk d + uptoBulkAll r
def uptoBulkEntries {H : Type} : List (Lit × DataW H) → Nat
  | [] => 0
  | x :: r => uptoBulkEntry x + uptoBulkEntries r
def uptoBulkEntry {H : Type} : Lit × DataW H → Nat
  | (.string bytes, d) => bytes.length + uptoBulk d + 1
  | (_, d) => uptoBulk d + 1
 end
def uptoSmall : (H : Type) → List (DataW H) → Bool := fun _ ds => decide (uptoBulkAll ds ≤ 1048576)
def OpenSpec.upto (s : _root_.Go.ChangeSpec) : _root_.Go.OpenSpec := { _root_.Go.OpenSpec.ofChange s with cond := some uptoSmall }

/-- 'vendmeterlaw.PadPresses', WHERE WHAT IT READS IS OF BULK AT MOST 1048576: true; the input reads as it did. -/
def padPressesUptoRow : OpenClaim := { program := "ytkobdkkgkpgcbaadoor", sum := "5bd4a88024fc682e16cdc5ff8f0066525e8f47b194a865edba01a1a6480fe5d4", func := "vendmeter/vendmeterlaw.PadPresses", spec := "padPresses", recurses := true, named := ["vendmeter/keypad.noughts"], apart := false, laid := [("vendmeter/keypad.noughts", laid_vendmeter_keypad_noughts)], narrowed := true }
def PadPressesUptoSaid : Prop := padPressesUptoRow.holds Tryd.pinned (OpenSpec.upto padPressesSpec)

/-- 'vendmeterlaw.PadKeys', WHERE WHAT IT READS IS OF BULK AT MOST 1048576: true; the input reads as it did. -/
def padKeysUptoRow : OpenClaim := { program := "ytkobdkkgkpgcbaadoor", sum := "5bd4a88024fc682e16cdc5ff8f0066525e8f47b194a865edba01a1a6480fe5d4", func := "vendmeter/vendmeterlaw.PadKeys", spec := "padKeys", recurses := true, named := ["vendmeter/keypad.noughts", "unicode/utf8.first", "unicode/utf8.acceptRanges"], apart := false, laid := [("unicode/utf8.acceptRanges", laid_unicode_utf8_acceptRanges), ("vendmeter/keypad.noughts", laid_vendmeter_keypad_noughts), ("unicode/utf8.first", laid_unicode_utf8_first)], narrowed := true }
def PadKeysUptoSaid : Prop := padKeysUptoRow.holds Tryd.pinned (OpenSpec.upto padKeysSpec)

/-- 'vendmeterkeep.PadPieces', WHERE WHAT IT READS IS OF BULK AT MOST 1048576: true; the input reads as it did. -/
def padPiecesUptoRow : OpenClaim := { program := "ytkobdkkgkpgcbaadoor", sum := "5bd4a88024fc682e16cdc5ff8f0066525e8f47b194a865edba01a1a6480fe5d4", func := "vendmeter/vendmeterkeep.PadPieces", spec := "padPieces", named := ["vendmeter/keypad.noughts"], apart := false, laid := [("vendmeter/keypad.noughts", laid_vendmeter_keypad_noughts)], narrowed := true }
def PadPiecesUptoSaid : Prop := padPiecesUptoRow.holds Tryd.pinned (OpenSpec.upto padPiecesSpec)

/-- 'vendmeterkeep.PadPlain', WHERE WHAT IT READS IS OF BULK AT MOST 1048576: true; the input reads as it did. -/
def padPlainUptoRow : OpenClaim := { program := "ytkobdkkgkpgcbaadoor", sum := "5bd4a88024fc682e16cdc5ff8f0066525e8f47b194a865edba01a1a6480fe5d4", func := "vendmeter/vendmeterkeep.PadPlain", spec := "padPlain", named := ["vendmeter/keypad.noughts"], apart := false, laid := [("vendmeter/keypad.noughts", laid_vendmeter_keypad_noughts)], narrowed := true }
def PadPlainUptoSaid : Prop := padPlainUptoRow.holds Tryd.pinned (OpenSpec.upto padPlainSpec)

/-- 'vendmeterkeep.PadScripts', WHERE WHAT IT READS IS OF BULK AT MOST 1048576: true; the input reads as it did. -/
def padScriptsUptoRow : OpenClaim := { program := "ytkobdkkgkpgcbaadoor", sum := "5bd4a88024fc682e16cdc5ff8f0066525e8f47b194a865edba01a1a6480fe5d4", func := "vendmeter/vendmeterkeep.PadScripts", spec := "padScripts", named := ["vendmeter/keypad.noughts"], apart := false, laid := [("vendmeter/keypad.noughts", laid_vendmeter_keypad_noughts)], narrowed := true }
def PadScriptsUptoSaid : Prop := padScriptsUptoRow.holds Tryd.pinned (OpenSpec.upto padScriptsSpec)

/-- 'vendmeterkeep.PadUndo', WHERE WHAT IT READS IS OF BULK AT MOST 1048576: true; the input reads as it did. -/
def padUndoUptoRow : OpenClaim := { program := "ytkobdkkgkpgcbaadoor", sum := "5bd4a88024fc682e16cdc5ff8f0066525e8f47b194a865edba01a1a6480fe5d4", func := "vendmeter/vendmeterkeep.PadUndo", spec := "padUndo", named := ["vendmeter/keypad.noughts"], apart := false, laid := [("vendmeter/keypad.noughts", laid_vendmeter_keypad_noughts)], narrowed := true }
def PadUndoUptoSaid : Prop := padUndoUptoRow.holds Tryd.pinned (OpenSpec.upto padUndoSpec)

end Rows
end Go.Proofs.YtkobdkkgkpgcbaaDoor
