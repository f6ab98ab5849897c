/-
  No cell of these rows narrows 'for every input' (looked for: loops, veiled, ifaces, maps, wideKeys, modest, calm, conditions, laid).
  DERIVED. THE GIVEN ROWS OF THIS SEAT. 5 by the template 'for every input the law returns true; each argument reads behind the call as it read before'; 0 by the template 'total and deterministic' (their statements: YtiipnokmiknfoaaTotals.lean).
  GIVEN WITH THE SEED: the statements are not yours to turn. If you find one false, say at which input.
  Laid BY PROGRAM, IN A SANDBOX (cutbox-rows.mjs): the forced cells as the released guide's own fill.sh prints them over the translation 41d35b33e6f5f622… (all of the seat's roots in one cut). By AI agents, Wed Nov 11 2026. No macro, syntax, notation, axiom, sorry.
-/
import Derived.Test.YtiipnokmiknfoaaChecked
import GoSem.Claim
import GoSem.ClaimJoined
import GoSem.ClaimMapViews
import Derived.JoinedTies
import Derived.KernelRfl
namespace Go.Proofs.Ytiipnokmiknfoaa
/- THE CELL 'sum', in the pinned program and in every row, IS THE sha256 OF THE DUMP (.gsa) THAT YtiipnokmiknfoaaProg.lean LOADS. Nothing in Lean hashes anything: it is a label: what it is worth is what the hold of that sum in a sandbox is worth. -/
noncomputable def Try.pinned : Pinned := { name := "ytiipnokmiknfoaa", sum := "41d35b33e6f5f622b4431f5d6d6eb4d13a322ece19bd9da154a3d44d8ab2ce79", checked := Try.checked }
namespace Rows
def none {H : Type} : Left H := { results := [], args := [] }

/-- 'vendmeterlaw.CellBlanks': WHATEVER THE INPUT: true; the input reads as it did. -/
def cellBlanksSpec : ChangeSpec := { name := "cellBlanks", fn := fun _ => fun
  | [d] => { results := [.lit (.bool true)], args := [d] }
  | _ => none }
def cellBlanksRow : OpenClaim := { program := "ytiipnokmiknfoaa", sum := "41d35b33e6f5f622b4431f5d6d6eb4d13a322ece19bd9da154a3d44d8ab2ce79", func := "vendmeter/vendmeterlaw.CellBlanks", spec := "cellBlanks", apart := false }
def CellBlanksSaid : Prop := cellBlanksRow.holds Try.pinned (OpenSpec.ofChange cellBlanksSpec)

/-- ITS FALSE NEIGHBOUR: 'it returns false'. Refute it at one input. -/
def cellBlanksWrong : ChangeSpec := { name := "cellBlanks", fn := fun _ => fun
  | [d] => { results := [.lit (.bool false)], args := [d] }
  | _ => none }
def CellBlanksWrongFalsely : Prop := cellBlanksRow.holds Try.pinned (OpenSpec.ofChange cellBlanksWrong)

/-- 'vendmeterlaw.CellApplies': WHATEVER THE INPUT: true; the input reads as it did. -/
def cellAppliesSpec : ChangeSpec := { name := "cellApplies", fn := fun _ => fun
  | [d1, d2, d3] => { results := [.lit (.bool true)], args := [d1, d2, d3] }
  | _ => none }
def cellAppliesRow : OpenClaim := { program := "ytiipnokmiknfoaa", sum := "41d35b33e6f5f622b4431f5d6d6eb4d13a322ece19bd9da154a3d44d8ab2ce79", func := "vendmeter/vendmeterlaw.CellApplies", spec := "cellApplies", unfollowed := true, recurses := true, apart := false }
def CellAppliesSaid : Prop := cellAppliesRow.holds Try.pinned (OpenSpec.ofChange cellAppliesSpec)

/-- ITS FALSE NEIGHBOUR: 'it returns false'. Refute it at one input. -/
def cellAppliesWrong : ChangeSpec := { name := "cellApplies", fn := fun _ => fun
  | [d1, d2, d3] => { results := [.lit (.bool false)], args := [d1, d2, d3] }
  | _ => none }
def CellAppliesWrongFalsely : Prop := cellAppliesRow.holds Try.pinned (OpenSpec.ofChange cellAppliesWrong)

/-- 'vendmeterlaw.CellDiffs': WHATEVER THE INPUT: true; the input reads as it did. -/
def cellDiffsSpec : ChangeSpec := { name := "cellDiffs", fn := fun _ => fun
  | [d1, d2] => { results := [.lit (.bool true)], args := [d1, d2] }
  | _ => none }
def cellDiffsRow : OpenClaim := { program := "ytiipnokmiknfoaa", sum := "41d35b33e6f5f622b4431f5d6d6eb4d13a322ece19bd9da154a3d44d8ab2ce79", func := "vendmeter/vendmeterlaw.CellDiffs", spec := "cellDiffs", apart := false }
def CellDiffsSaid : Prop := cellDiffsRow.holds Try.pinned (OpenSpec.ofChange cellDiffsSpec)

/-- ITS FALSE NEIGHBOUR: 'it returns false'. Refute it at one input. -/
def cellDiffsWrong : ChangeSpec := { name := "cellDiffs", fn := fun _ => fun
  | [d1, d2] => { results := [.lit (.bool false)], args := [d1, d2] }
  | _ => none }
def CellDiffsWrongFalsely : Prop := cellDiffsRow.holds Try.pinned (OpenSpec.ofChange cellDiffsWrong)

/-- 'vendmeterkeep.ApplyStep': WHATEVER THE INPUT: true; the input reads as it did. -/
def applyStepSpec : ChangeSpec := { name := "applyStep", fn := fun _ => fun
  | [d1, d2, d3] => { results := [.lit (.bool true)], args := [d1, d2, d3] }
  | _ => none }
def applyStepRow : OpenClaim := { program := "ytiipnokmiknfoaa", sum := "41d35b33e6f5f622b4431f5d6d6eb4d13a322ece19bd9da154a3d44d8ab2ce79", func := "vendmeter/vendmeterkeep.ApplyStep", spec := "applyStep", unfollowed := true, recurses := true, apart := false }
def ApplyStepSaid : Prop := applyStepRow.holds Try.pinned (OpenSpec.ofChange applyStepSpec)

/-- ITS FALSE NEIGHBOUR: 'it returns false'. Refute it at one input. -/
def applyStepWrong : ChangeSpec := { name := "applyStep", fn := fun _ => fun
  | [d1, d2, d3] => { results := [.lit (.bool false)], args := [d1, d2, d3] }
  | _ => none }
def ApplyStepWrongFalsely : Prop := applyStepRow.holds Try.pinned (OpenSpec.ofChange applyStepWrong)

/-- 'vendmeterkeep.DiffBack': WHATEVER THE INPUT: true; the input reads as it did. -/
def diffBackSpec : ChangeSpec := { name := "diffBack", fn := fun _ => fun
  | [d1, d2] => { results := [.lit (.bool true)], args := [d1, d2] }
  | _ => none }
def diffBackRow : OpenClaim := { program := "ytiipnokmiknfoaa", sum := "41d35b33e6f5f622b4431f5d6d6eb4d13a322ece19bd9da154a3d44d8ab2ce79", func := "vendmeter/vendmeterkeep.DiffBack", spec := "diffBack", unfollowed := true, recurses := true, apart := false }
def DiffBackSaid : Prop := diffBackRow.holds Try.pinned (OpenSpec.ofChange diffBackSpec)

/-- ITS FALSE NEIGHBOUR: 'it returns false'. Refute it at one input. -/
def diffBackWrong : ChangeSpec := { name := "diffBack", fn := fun _ => fun
  | [d1, d2] => { results := [.lit (.bool false)], args := [d1, d2] }
  | _ => none }
def DiffBackWrongFalsely : Prop := diffBackRow.holds Try.pinned (OpenSpec.ofChange diffBackWrong)

/- THE SECOND FORM. 'bulk': how many values and letters a reading holds, each counted each time it is reached (what is shared counts as often as it is met; a slice's spare places count too). A statement '..UptoSaid' is the law's where the arguments, and the package variables that the reading takes, are together of bulk at most 1048576: NARROWER than '..Said'. Prove '..Said' where nothing that the law and all that it calls make is longer than what came in: it says more and counts as full. Else prove '..UptoSaid'. A law counts once. -/
mutual
def uptoBulk {H : Type} : DataW H → Nat
  | .lit (.string bytes) => bytes.length + 1
  | .lit _ => 1
  | .nil => 1
  | .ptr d => uptoBulk d + 1
  | .slice elems spare => uptoBulkAll elems + uptoBulkAll spare + 1
  | .agg parts => uptoBulkAll parts + 1
  | .iface _ d => uptoBulk d + 1
  | .map entries => uptoBulkEntries entries + 1
  | .held _ => 1
def uptoBulkAll {H : Type} : List (DataW H) → Nat
  | [] => 0
  | d :: r => uptoBulk d + uptoBulkAll r
def uptoBulkEntries {H : Type} : List (Lit × DataW H) → Nat
  | [] => 0
  | x :: r => uptoBulkEntry x + uptoBulkEntries r
def uptoBulkEntry {H : Type} : Lit × DataW H → Nat
  | (.string bytes, d) => bytes.length + uptoBulk d + 1
  | (_, d) => uptoBulk d + 1
 end
def uptoSmall : (H : Type) → List (DataW H) → Bool := fun _ ds => decide (uptoBulkAll ds ≤ 1048576)
def OpenSpec.upto (s : _root_.Go.ChangeSpec) : _root_.Go.OpenSpec := { _root_.Go.OpenSpec.ofChange s with cond := some uptoSmall }

/-- 'vendmeterlaw.CellBlanks', WHERE WHAT IT READS IS OF BULK AT MOST 1048576: true; the input reads as it did. -/
def cellBlanksUptoRow : OpenClaim := { program := "ytiipnokmiknfoaa", sum := "41d35b33e6f5f622b4431f5d6d6eb4d13a322ece19bd9da154a3d44d8ab2ce79", func := "vendmeter/vendmeterlaw.CellBlanks", spec := "cellBlanks", apart := false, narrowed := true }
def CellBlanksUptoSaid : Prop := cellBlanksUptoRow.holds Try.pinned (OpenSpec.upto cellBlanksSpec)

/-- 'vendmeterlaw.CellApplies', WHERE WHAT IT READS IS OF BULK AT MOST 1048576: true; the input reads as it did. -/
def cellAppliesUptoRow : OpenClaim := { program := "ytiipnokmiknfoaa", sum := "41d35b33e6f5f622b4431f5d6d6eb4d13a322ece19bd9da154a3d44d8ab2ce79", func := "vendmeter/vendmeterlaw.CellApplies", spec := "cellApplies", unfollowed := true, recurses := true, apart := false, narrowed := true }
def CellAppliesUptoSaid : Prop := cellAppliesUptoRow.holds Try.pinned (OpenSpec.upto cellAppliesSpec)

/-- 'vendmeterlaw.CellDiffs', WHERE WHAT IT READS IS OF BULK AT MOST 1048576: true; the input reads as it did. -/
def cellDiffsUptoRow : OpenClaim := { program := "ytiipnokmiknfoaa", sum := "41d35b33e6f5f622b4431f5d6d6eb4d13a322ece19bd9da154a3d44d8ab2ce79", func := "vendmeter/vendmeterlaw.CellDiffs", spec := "cellDiffs", apart := false, narrowed := true }
def CellDiffsUptoSaid : Prop := cellDiffsUptoRow.holds Try.pinned (OpenSpec.upto cellDiffsSpec)

/-- 'vendmeterkeep.ApplyStep', WHERE WHAT IT READS IS OF BULK AT MOST 1048576: true; the input reads as it did. -/
def applyStepUptoRow : OpenClaim := { program := "ytiipnokmiknfoaa", sum := "41d35b33e6f5f622b4431f5d6d6eb4d13a322ece19bd9da154a3d44d8ab2ce79", func := "vendmeter/vendmeterkeep.ApplyStep", spec := "applyStep", unfollowed := true, recurses := true, apart := false, narrowed := true }
def ApplyStepUptoSaid : Prop := applyStepUptoRow.holds Try.pinned (OpenSpec.upto applyStepSpec)

/-- 'vendmeterkeep.DiffBack', WHERE WHAT IT READS IS OF BULK AT MOST 1048576: true; the input reads as it did. -/
def diffBackUptoRow : OpenClaim := { program := "ytiipnokmiknfoaa", sum := "41d35b33e6f5f622b4431f5d6d6eb4d13a322ece19bd9da154a3d44d8ab2ce79", func := "vendmeter/vendmeterkeep.DiffBack", spec := "diffBack", unfollowed := true, recurses := true, apart := false, narrowed := true }
def DiffBackUptoSaid : Prop := diffBackUptoRow.holds Try.pinned (OpenSpec.upto diffBackSpec)

end Rows
end Go.Proofs.Ytiipnokmiknfoaa
