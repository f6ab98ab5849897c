/-
  No cell of these rows narrows 'for every input' (looked for: loops, veiled, ifaces, maps, wideKeys, modest, calm, conditions, laid).
  DERIVED. THE GIVEN ROWS OF THIS SEAT. 3 by the template 'for every input the law returns true; each argument reads behind the call as it read before'; 0 by the template 'total and deterministic' (their statements: YtopbiamlmdpphacTotals.lean).
  GIVEN WITH THE SEED: the statements are not yours to turn. If you find one false, say at which input.
  Laid BY PROGRAM, IN A SANDBOX (cutbox-rows.mjs): the forced cells as the released guide's own fill.sh prints them over the translation 335f543190026635… (all of the seat's roots in one cut). By AI agents, Wed Nov 11 2026. No macro, syntax, notation, axiom, sorry.
-/
import Derived.Test.YtopbiamlmdpphacChecked
import GoSem.Claim
import GoSem.ClaimJoined
import GoSem.ClaimMapViews
import Derived.JoinedTies
import Derived.KernelRfl
namespace Go.Proofs.Ytopbiamlmdpphac
/- THE CELL 'sum', in the pinned program and in every row, IS THE sha256 OF THE DUMP (.gsa) THAT YtopbiamlmdpphacProg.lean LOADS. Nothing in Lean hashes anything: it is a label: what it is worth is what the hold of that sum in a sandbox is worth. -/
noncomputable def Try.pinned : Pinned := { name := "ytopbiamlmdpphac", sum := "335f5431900266357d2f0f14a0cb9dfbc48945cef6b79f36e2bdaa46527b8394", checked := Try.checked }
namespace Rows
def none {H : Type} : Left H := { results := [], args := [] }

/-- 'vendmeterkeep.RestSlip': WHATEVER THE INPUT: true; the input reads as it did. -/
def restSlipSpec : ChangeSpec := { name := "restSlip", fn := fun _ => fun
  | [d1, d2, d3] => { results := [.lit (.bool true)], args := [d1, d2, d3] }
  | _ => none }
def restSlipRow : OpenClaim := { program := "ytopbiamlmdpphac", sum := "335f5431900266357d2f0f14a0cb9dfbc48945cef6b79f36e2bdaa46527b8394", func := "vendmeter/vendmeterkeep.RestSlip", spec := "restSlip", apart := false }
def RestSlipSaid : Prop := restSlipRow.holds Try.pinned (OpenSpec.ofChange restSlipSpec)

/-- ITS FALSE NEIGHBOUR: 'it returns false'. Refute it at one input. -/
def restSlipWrong : ChangeSpec := { name := "restSlip", fn := fun _ => fun
  | [d1, d2, d3] => { results := [.lit (.bool false)], args := [d1, d2, d3] }
  | _ => none }
def RestSlipWrongFalsely : Prop := restSlipRow.holds Try.pinned (OpenSpec.ofChange restSlipWrong)

/-- 'vendmeterkeep.RestSwaps': WHATEVER THE INPUT: true; the input reads as it did. -/
def restSwapsSpec : ChangeSpec := { name := "restSwaps", fn := fun _ => fun
  | [d1, d2, d3] => { results := [.lit (.bool true)], args := [d1, d2, d3] }
  | _ => none }
def restSwapsRow : OpenClaim := { program := "ytopbiamlmdpphac", sum := "335f5431900266357d2f0f14a0cb9dfbc48945cef6b79f36e2bdaa46527b8394", func := "vendmeter/vendmeterkeep.RestSwaps", spec := "restSwaps", apart := false }
def RestSwapsSaid : Prop := restSwapsRow.holds Try.pinned (OpenSpec.ofChange restSwapsSpec)

/-- ITS FALSE NEIGHBOUR: 'it returns false'. Refute it at one input. -/
def restSwapsWrong : ChangeSpec := { name := "restSwaps", fn := fun _ => fun
  | [d1, d2, d3] => { results := [.lit (.bool false)], args := [d1, d2, d3] }
  | _ => none }
def RestSwapsWrongFalsely : Prop := restSwapsRow.holds Try.pinned (OpenSpec.ofChange restSwapsWrong)

/-- 'vendmeterkeep.RestJoins': WHATEVER THE INPUT: true; the input reads as it did. -/
def restJoinsSpec : ChangeSpec := { name := "restJoins", fn := fun _ => fun
  | [d1, d2] => { results := [.lit (.bool true)], args := [d1, d2] }
  | _ => none }
def restJoinsRow : OpenClaim := { program := "ytopbiamlmdpphac", sum := "335f5431900266357d2f0f14a0cb9dfbc48945cef6b79f36e2bdaa46527b8394", func := "vendmeter/vendmeterkeep.RestJoins", spec := "restJoins", apart := false }
def RestJoinsSaid : Prop := restJoinsRow.holds Try.pinned (OpenSpec.ofChange restJoinsSpec)

/-- ITS FALSE NEIGHBOUR: 'it returns false'. Refute it at one input. -/
def restJoinsWrong : ChangeSpec := { name := "restJoins", fn := fun _ => fun
  | [d1, d2] => { results := [.lit (.bool false)], args := [d1, d2] }
  | _ => none }
def RestJoinsWrongFalsely : Prop := restJoinsRow.holds Try.pinned (OpenSpec.ofChange restJoinsWrong)

/- THE SECOND FORM. 'bulk': how many values and letters a reading holds, each counted each time it is reached (what is shared counts as often as it is met; a slice's spare places count too). A statement '..UptoSaid' is the law's where the arguments, and the package variables that the reading takes, are together of bulk at most 1048576: NARROWER than '..Said'. Prove '..Said' where nothing that the law and all that it calls make is longer than what came in: it says more and counts as full. Else prove '..UptoSaid'. A law counts once. -/
mutual
def uptoBulk {H : Type} : DataW H → Nat
  | .lit (.string bytes) => bytes.length + 1
  | .lit _ => 1
  | .nil => 1
  | .ptr d => uptoBulk d + 1
  | .slice elems spare => uptoBulkAll elems + uptoBulkAll spare + 1
  | .agg parts => uptoBulkAll parts + 1
  | .iface _ d => uptoBulk d + 1
  | .map entries => uptoBulkEntries entries + 1
  | .held _ => 1
def uptoBulkAll {H : Type} : List (DataW H) → Nat
  | [] => 0
  | d :: r => uptoBulk d + uptoBulkAll r
def uptoBulkEntries {H : Type} : List (Lit × DataW H) → Nat
  | [] => 0
  | x :: r => uptoBulkEntry x + uptoBulkEntries r
def uptoBulkEntry {H : Type} : Lit × DataW H → Nat
  | (.string bytes, d) => bytes.length + uptoBulk d + 1
  | (_, d) => uptoBulk d + 1
 end
def uptoSmall : (H : Type) → List (DataW H) → Bool := fun _ ds => decide (uptoBulkAll ds ≤ 1048576)
def OpenSpec.upto (s : _root_.Go.ChangeSpec) : _root_.Go.OpenSpec := { _root_.Go.OpenSpec.ofChange s with cond := some uptoSmall }

/-- 'vendmeterkeep.RestSlip', WHERE WHAT IT READS IS OF BULK AT MOST 1048576: true; the input reads as it did. -/
def restSlipUptoRow : OpenClaim := { program := "ytopbiamlmdpphac", sum := "335f5431900266357d2f0f14a0cb9dfbc48945cef6b79f36e2bdaa46527b8394", func := "vendmeter/vendmeterkeep.RestSlip", spec := "restSlip", apart := false, narrowed := true }
def RestSlipUptoSaid : Prop := restSlipUptoRow.holds Try.pinned (OpenSpec.upto restSlipSpec)

/-- 'vendmeterkeep.RestSwaps', WHERE WHAT IT READS IS OF BULK AT MOST 1048576: true; the input reads as it did. -/
def restSwapsUptoRow : OpenClaim := { program := "ytopbiamlmdpphac", sum := "335f5431900266357d2f0f14a0cb9dfbc48945cef6b79f36e2bdaa46527b8394", func := "vendmeter/vendmeterkeep.RestSwaps", spec := "restSwaps", apart := false, narrowed := true }
def RestSwapsUptoSaid : Prop := restSwapsUptoRow.holds Try.pinned (OpenSpec.upto restSwapsSpec)

/-- 'vendmeterkeep.RestJoins', WHERE WHAT IT READS IS OF BULK AT MOST 1048576: true; the input reads as it did. -/
def restJoinsUptoRow : OpenClaim := { program := "ytopbiamlmdpphac", sum := "335f5431900266357d2f0f14a0cb9dfbc48945cef6b79f36e2bdaa46527b8394", func := "vendmeter/vendmeterkeep.RestJoins", spec := "restJoins", apart := false, narrowed := true }
def RestJoinsUptoSaid : Prop := restJoinsUptoRow.holds Try.pinned (OpenSpec.upto restJoinsSpec)

end Rows
end Go.Proofs.Ytopbiamlmdpphac
