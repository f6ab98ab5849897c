/-
  No cell of these rows narrows 'for every input' (looked for: loops, veiled, ifaces, maps, wideKeys, modest, calm, conditions, laid).
  DERIVED. THE GIVEN ROWS OF THIS SEAT. 2 by the template 'for every input the law returns true; each argument reads behind the call as it read before'; 0 by the template 'total and deterministic' (their statements: YtmpapnblpjnlmabTotals.lean).
  GIVEN WITH THE SEED: the statements are not yours to turn. If you find one false, say at which input.
  Laid BY PROGRAM, IN A SANDBOX (cutbox-rows.mjs): the forced cells as the released guide's own fill.sh prints them over the translation 13b646c88c2fdd79… (all of the seat's roots in one cut). By AI agents, Wed Nov 11 2026. No macro, syntax, notation, axiom, sorry.
-/
import Derived.Test.YtmpapnblpjnlmabChecked
import GoSem.Claim
import GoSem.ClaimJoined
import GoSem.ClaimMapViews
import Derived.JoinedTies
import Derived.KernelRfl
namespace Go.Proofs.Ytmpapnblpjnlmab
/- THE CELL 'sum', in the pinned program and in every row, IS THE sha256 OF THE DUMP (.gsa) THAT YtmpapnblpjnlmabProg.lean LOADS. Nothing in Lean hashes anything: it is a label: what it is worth is what the hold of that sum in a sandbox is worth. -/
noncomputable def Try.pinned : Pinned := { name := "ytmpapnblpjnlmab", sum := "13b646c88c2fdd79fa6db1eeb0f3ae40d67de3f1bdf7b1467b6c0bc905130045", checked := Try.checked }
namespace Rows
def none {H : Type} : Left H := { results := [], args := [] }

/-- 'vendmeterkeep.MeterFixed': WHATEVER THE INPUT: true; the input reads as it did. -/
def meterFixedSpec : ChangeSpec := { name := "meterFixed", fn := fun _ => fun
  | [d] => { results := [.lit (.bool true)], args := [d] }
  | _ => none }
def meterFixedRow : OpenClaim := { program := "ytmpapnblpjnlmab", sum := "13b646c88c2fdd79fa6db1eeb0f3ae40d67de3f1bdf7b1467b6c0bc905130045", func := "vendmeter/vendmeterkeep.MeterFixed", spec := "meterFixed", unfollowed := true, recurses := true, apart := false }
def MeterFixedSaid : Prop := meterFixedRow.holds Try.pinned (OpenSpec.ofChange meterFixedSpec)

/-- ITS FALSE NEIGHBOUR: 'it returns false'. Refute it at one input. -/
def meterFixedWrong : ChangeSpec := { name := "meterFixed", fn := fun _ => fun
  | [d] => { results := [.lit (.bool false)], args := [d] }
  | _ => none }
def MeterFixedWrongFalsely : Prop := meterFixedRow.holds Try.pinned (OpenSpec.ofChange meterFixedWrong)

/-- 'vendmeterkeep.MeterBurns': WHATEVER THE INPUT: true; the input reads as it did. -/
def meterBurnsSpec : ChangeSpec := { name := "meterBurns", fn := fun _ => fun
  | [d1, d2] => { results := [.lit (.bool true)], args := [d1, d2] }
  | _ => none }
def meterBurnsRow : OpenClaim := { program := "ytmpapnblpjnlmab", sum := "13b646c88c2fdd79fa6db1eeb0f3ae40d67de3f1bdf7b1467b6c0bc905130045", func := "vendmeter/vendmeterkeep.MeterBurns", spec := "meterBurns", apart := false }
def MeterBurnsSaid : Prop := meterBurnsRow.holds Try.pinned (OpenSpec.ofChange meterBurnsSpec)

/-- ITS FALSE NEIGHBOUR: 'it returns false'. Refute it at one input. -/
def meterBurnsWrong : ChangeSpec := { name := "meterBurns", fn := fun _ => fun
  | [d1, d2] => { results := [.lit (.bool false)], args := [d1, d2] }
  | _ => none }
def MeterBurnsWrongFalsely : Prop := meterBurnsRow.holds Try.pinned (OpenSpec.ofChange meterBurnsWrong)

/- THE SECOND FORM. 'bulk': how many values and letters a reading holds, each counted each time it is reached (what is shared counts as often as it is met; a slice's spare places count too). A statement '..UptoSaid' is the law's where the arguments, and the package variables that the reading takes, are together of bulk at most 1048576: NARROWER than '..Said'. Prove '..Said' where nothing that the law and all that it calls make is longer than what came in: it says more and counts as full. Else prove '..UptoSaid'. A law counts once. -/
mutual
def uptoBulk {H : Type} : DataW H → Nat
  | .lit (.string bytes) => bytes.length + 1
  | .lit _ => 1
  | .nil => 1
  | .ptr d => uptoBulk d + 1
  | .slice elems spare => uptoBulkAll elems + uptoBulkAll spare + 1
  | .agg parts => uptoBulkAll parts + 1
  | .iface _ d => uptoBulk d + 1
  | .map entries => uptoBulkEntries entries + 1
  | .held _ => 1
def uptoBulkAll {H : Type} : List (DataW H) → Nat
  | [] => 0
  | d :: r => uptoBulk d + uptoBulkAll r
def uptoBulkEntries {H : Type} : List (Lit × DataW H) → Nat
  | [] => 0
  | x :: r => uptoBulkEntry x + uptoBulkEntries r
def uptoBulkEntry {H : Type} : Lit × DataW H → Nat
  | (.string bytes, d) => bytes.length + uptoBulk d + 1
  | (_, d) => uptoBulk d + 1
 end
def uptoSmall : (H : Type) → List (DataW H) → Bool := fun _ ds => decide (uptoBulkAll ds ≤ 1048576)
def OpenSpec.upto (s : _root_.Go.ChangeSpec) : _root_.Go.OpenSpec := { _root_.Go.OpenSpec.ofChange s with cond := some uptoSmall }

/-- 'vendmeterkeep.MeterFixed', WHERE WHAT IT READS IS OF BULK AT MOST 1048576: true; the input reads as it did. -/
def meterFixedUptoRow : OpenClaim := { program := "ytmpapnblpjnlmab", sum := "13b646c88c2fdd79fa6db1eeb0f3ae40d67de3f1bdf7b1467b6c0bc905130045", func := "vendmeter/vendmeterkeep.MeterFixed", spec := "meterFixed", unfollowed := true, recurses := true, apart := false, narrowed := true }
def MeterFixedUptoSaid : Prop := meterFixedUptoRow.holds Try.pinned (OpenSpec.upto meterFixedSpec)

/-- 'vendmeterkeep.MeterBurns', WHERE WHAT IT READS IS OF BULK AT MOST 1048576: true; the input reads as it did. -/
def meterBurnsUptoRow : OpenClaim := { program := "ytmpapnblpjnlmab", sum := "13b646c88c2fdd79fa6db1eeb0f3ae40d67de3f1bdf7b1467b6c0bc905130045", func := "vendmeter/vendmeterkeep.MeterBurns", spec := "meterBurns", apart := false, narrowed := true }
def MeterBurnsUptoSaid : Prop := meterBurnsUptoRow.holds Try.pinned (OpenSpec.upto meterBurnsSpec)

end Rows
end Go.Proofs.Ytmpapnblpjnlmab
