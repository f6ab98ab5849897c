/-
  No cell of these rows narrows 'for every input' (looked for: loops, veiled, ifaces, maps, wideKeys, modest, calm, conditions, laid).
  DERIVED. THE GIVEN ROWS OF THIS SEAT. 5 by the template 'for every input the law returns true; each argument reads behind the call as it read before'; 0 by the template 'total and deterministic' (their statements: YtipihacnkiijaacTotals.lean).
  GIVEN WITH THE SEED: the statements are not yours to turn. If you find one false, say at which input.
  Laid BY PROGRAM, IN A SANDBOX (cutbox-rows.mjs): the forced cells as the released guide's own fill.sh prints them over the translation 5e2451be544abb46… (all of the seat's roots in one cut). By AI agents, Wed Nov 11 2026. No macro, syntax, notation, axiom, sorry.
-/
import Derived.Test.YtipihacnkiijaacChecked
import GoSem.Claim
import GoSem.ClaimJoined
import GoSem.ClaimMapViews
import Derived.JoinedTies
import Derived.KernelRfl
namespace Go.Proofs.Ytipihacnkiijaac
/- THE CELL 'sum', in the pinned program and in every row, IS THE sha256 OF THE DUMP (.gsa) THAT YtipihacnkiijaacProg.lean LOADS. Nothing in Lean hashes anything: it is a label: what it is worth is what the hold of that sum in a sandbox is worth. -/
noncomputable def Try.pinned : Pinned := { name := "ytipihacnkiijaac", sum := "5e2451be544abb46a0176dc2543434420f19a71786cc67047a94263259c38d27", checked := Try.checked }
namespace Rows
def none {H : Type} : Left H := { results := [], args := [] }

/-- 'vendmeterkeep.OverBack': WHATEVER THE INPUT: true; the input reads as it did. -/
def overBackSpec : ChangeSpec := { name := "overBack", fn := fun _ => fun
  | [d1, d2] => { results := [.lit (.bool true)], args := [d1, d2] }
  | _ => none }
def overBackRow : OpenClaim := { program := "ytipihacnkiijaac", sum := "5e2451be544abb46a0176dc2543434420f19a71786cc67047a94263259c38d27", func := "vendmeter/vendmeterkeep.OverBack", spec := "overBack", unfollowed := true, recurses := true, apart := false }
def OverBackSaid : Prop := overBackRow.holds Try.pinned (OpenSpec.ofChange overBackSpec)

/-- ITS FALSE NEIGHBOUR: 'it returns false'. Refute it at one input. -/
def overBackWrong : ChangeSpec := { name := "overBack", fn := fun _ => fun
  | [d1, d2] => { results := [.lit (.bool false)], args := [d1, d2] }
  | _ => none }
def OverBackWrongFalsely : Prop := overBackRow.holds Try.pinned (OpenSpec.ofChange overBackWrong)

/-- 'vendmeterkeep.WideBack': WHATEVER THE INPUT: true; the input reads as it did. -/
def wideBackSpec : ChangeSpec := { name := "wideBack", fn := fun _ => fun
  | [d] => { results := [.lit (.bool true)], args := [d] }
  | _ => none }
def wideBackRow : OpenClaim := { program := "ytipihacnkiijaac", sum := "5e2451be544abb46a0176dc2543434420f19a71786cc67047a94263259c38d27", func := "vendmeter/vendmeterkeep.WideBack", spec := "wideBack", unfollowed := true, recurses := true, apart := false }
def WideBackSaid : Prop := wideBackRow.holds Try.pinned (OpenSpec.ofChange wideBackSpec)

/-- ITS FALSE NEIGHBOUR: 'it returns false'. Refute it at one input. -/
def wideBackWrong : ChangeSpec := { name := "wideBack", fn := fun _ => fun
  | [d] => { results := [.lit (.bool false)], args := [d] }
  | _ => none }
def WideBackWrongFalsely : Prop := wideBackRow.holds Try.pinned (OpenSpec.ofChange wideBackWrong)

/-- 'vendmeterkeep.TimesTurns': WHATEVER THE INPUT: true; the input reads as it did. -/
def timesTurnsSpec : ChangeSpec := { name := "timesTurns", fn := fun _ => fun
  | [d1, d2, d3] => { results := [.lit (.bool true)], args := [d1, d2, d3] }
  | _ => none }
def timesTurnsRow : OpenClaim := { program := "ytipihacnkiijaac", sum := "5e2451be544abb46a0176dc2543434420f19a71786cc67047a94263259c38d27", func := "vendmeter/vendmeterkeep.TimesTurns", spec := "timesTurns", unfollowed := true, recurses := true, apart := false }
def TimesTurnsSaid : Prop := timesTurnsRow.holds Try.pinned (OpenSpec.ofChange timesTurnsSpec)

/-- ITS FALSE NEIGHBOUR: 'it returns false'. Refute it at one input. -/
def timesTurnsWrong : ChangeSpec := { name := "timesTurns", fn := fun _ => fun
  | [d1, d2, d3] => { results := [.lit (.bool false)], args := [d1, d2, d3] }
  | _ => none }
def TimesTurnsWrongFalsely : Prop := timesTurnsRow.holds Try.pinned (OpenSpec.ofChange timesTurnsWrong)

/-- 'vendmeterkeep.CmpPlus': WHATEVER THE INPUT: true; the input reads as it did. -/
def cmpPlusSpec : ChangeSpec := { name := "cmpPlus", fn := fun _ => fun
  | [d1, d2] => { results := [.lit (.bool true)], args := [d1, d2] }
  | _ => none }
def cmpPlusRow : OpenClaim := { program := "ytipihacnkiijaac", sum := "5e2451be544abb46a0176dc2543434420f19a71786cc67047a94263259c38d27", func := "vendmeter/vendmeterkeep.CmpPlus", spec := "cmpPlus", unfollowed := true, recurses := true, apart := false }
def CmpPlusSaid : Prop := cmpPlusRow.holds Try.pinned (OpenSpec.ofChange cmpPlusSpec)

/-- ITS FALSE NEIGHBOUR: 'it returns false'. Refute it at one input. -/
def cmpPlusWrong : ChangeSpec := { name := "cmpPlus", fn := fun _ => fun
  | [d1, d2] => { results := [.lit (.bool false)], args := [d1, d2] }
  | _ => none }
def CmpPlusWrongFalsely : Prop := cmpPlusRow.holds Try.pinned (OpenSpec.ofChange cmpPlusWrong)

/-- 'vendmeterkeep.PutBits': WHATEVER THE INPUT: true; the input reads as it did. -/
def putBitsSpec : ChangeSpec := { name := "putBits", fn := fun _ => fun
  | [d1, d2, d3, d4] => { results := [.lit (.bool true)], args := [d1, d2, d3, d4] }
  | _ => none }
def putBitsRow : OpenClaim := { program := "ytipihacnkiijaac", sum := "5e2451be544abb46a0176dc2543434420f19a71786cc67047a94263259c38d27", func := "vendmeter/vendmeterkeep.PutBits", spec := "putBits", unfollowed := true, recurses := true, apart := false }
def PutBitsSaid : Prop := putBitsRow.holds Try.pinned (OpenSpec.ofChange putBitsSpec)

/-- ITS FALSE NEIGHBOUR: 'it returns false'. Refute it at one input. -/
def putBitsWrong : ChangeSpec := { name := "putBits", fn := fun _ => fun
  | [d1, d2, d3, d4] => { results := [.lit (.bool false)], args := [d1, d2, d3, d4] }
  | _ => none }
def PutBitsWrongFalsely : Prop := putBitsRow.holds Try.pinned (OpenSpec.ofChange putBitsWrong)

/- THE SECOND FORM. 'bulk': how many values and letters a reading holds, each counted each time it is reached (what is shared counts as often as it is met; a slice's spare places count too). A statement '..UptoSaid' is the law's where the arguments, and the package variables that the reading takes, are together of bulk at most 1048576: NARROWER than '..Said'. Prove '..Said' where nothing that the law and all that it calls make is longer than what came in: it says more and counts as full. Else prove '..UptoSaid'. A law counts once. -/
mutual
def uptoBulk {H : Type} : DataW H → Nat
  | .lit (.string bytes) => bytes.length + 1
  | .lit _ => 1
  | .nil => 1
  | .ptr d => uptoBulk d + 1
  | .slice elems spare => uptoBulkAll elems + uptoBulkAll spare + 1
  | .agg parts => uptoBulkAll parts + 1
  | .iface _ d => uptoBulk d + 1
  | .map entries => uptoBulkEntries entries + 1
  | .held _ => 1
def uptoBulkAll {H : Type} : List (DataW H) → Nat
  | [] => 0
  | d :: r => uptoBulk d + uptoBulkAll r
def uptoBulkEntries {H : Type} : List (Lit × DataW H) → Nat
  | [] => 0
  | x :: r => uptoBulkEntry x + uptoBulkEntries r
def uptoBulkEntry {H : Type} : Lit × DataW H → Nat
  | (.string bytes, d) => bytes.length + uptoBulk d + 1
  | (_, d) => uptoBulk d + 1
 end
def uptoSmall : (H : Type) → List (DataW H) → Bool := fun _ ds => decide (uptoBulkAll ds ≤ 1048576)
def OpenSpec.upto (s : _root_.Go.ChangeSpec) : _root_.Go.OpenSpec := { _root_.Go.OpenSpec.ofChange s with cond := some uptoSmall }

/-- 'vendmeterkeep.OverBack', WHERE WHAT IT READS IS OF BULK AT MOST 1048576: true; the input reads as it did. -/
def overBackUptoRow : OpenClaim := { program := "ytipihacnkiijaac", sum := "5e2451be544abb46a0176dc2543434420f19a71786cc67047a94263259c38d27", func := "vendmeter/vendmeterkeep.OverBack", spec := "overBack", unfollowed := true, recurses := true, apart := false, narrowed := true }
def OverBackUptoSaid : Prop := overBackUptoRow.holds Try.pinned (OpenSpec.upto overBackSpec)

/-- 'vendmeterkeep.WideBack', WHERE WHAT IT READS IS OF BULK AT MOST 1048576: true; the input reads as it did. -/
def wideBackUptoRow : OpenClaim := { program := "ytipihacnkiijaac", sum := "5e2451be544abb46a0176dc2543434420f19a71786cc67047a94263259c38d27", func := "vendmeter/vendmeterkeep.WideBack", spec := "wideBack", unfollowed := true, recurses := true, apart := false, narrowed := true }
def WideBackUptoSaid : Prop := wideBackUptoRow.holds Try.pinned (OpenSpec.upto wideBackSpec)

/-- 'vendmeterkeep.TimesTurns', WHERE WHAT IT READS IS OF BULK AT MOST 1048576: true; the input reads as it did. -/
def timesTurnsUptoRow : OpenClaim := { program := "ytipihacnkiijaac", sum := "5e2451be544abb46a0176dc2543434420f19a71786cc67047a94263259c38d27", func := "vendmeter/vendmeterkeep.TimesTurns", spec := "timesTurns", unfollowed := true, recurses := true, apart := false, narrowed := true }
def TimesTurnsUptoSaid : Prop := timesTurnsUptoRow.holds Try.pinned (OpenSpec.upto timesTurnsSpec)

/-- 'vendmeterkeep.CmpPlus', WHERE WHAT IT READS IS OF BULK AT MOST 1048576: true; the input reads as it did. -/
def cmpPlusUptoRow : OpenClaim := { program := "ytipihacnkiijaac", sum := "5e2451be544abb46a0176dc2543434420f19a71786cc67047a94263259c38d27", func := "vendmeter/vendmeterkeep.CmpPlus", spec := "cmpPlus", unfollowed := true, recurses := true, apart := false, narrowed := true }
def CmpPlusUptoSaid : Prop := cmpPlusUptoRow.holds Try.pinned (OpenSpec.upto cmpPlusSpec)

/-- 'vendmeterkeep.PutBits', WHERE WHAT IT READS IS OF BULK AT MOST 1048576: true; the input reads as it did. -/
def putBitsUptoRow : OpenClaim := { program := "ytipihacnkiijaac", sum := "5e2451be544abb46a0176dc2543434420f19a71786cc67047a94263259c38d27", func := "vendmeter/vendmeterkeep.PutBits", spec := "putBits", unfollowed := true, recurses := true, apart := false, narrowed := true }
def PutBitsUptoSaid : Prop := putBitsUptoRow.holds Try.pinned (OpenSpec.upto putBitsSpec)

end Rows
end Go.Proofs.Ytipihacnkiijaac
