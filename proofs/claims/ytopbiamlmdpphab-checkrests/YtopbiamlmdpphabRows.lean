/-
  No cell of these rows narrows 'for every input' (looked for: loops, veiled, ifaces, maps, wideKeys, modest, calm, conditions, laid).
  DERIVED. THE GIVEN ROWS OF THIS SEAT. 4 by the template 'for every input the law returns true; each argument reads behind the call as it read before'; 0 by the template 'total and deterministic' (their statements: YtopbiamlmdpphabTotals.lean).
  GIVEN WITH THE SEED: the statements are not yours to turn. If you find one false, say at which input.
  Laid BY PROGRAM, IN A SANDBOX (cutbox-rows.mjs): the forced cells as the released guide's own fill.sh prints them over the translation 1e7faf91aace1922… (all of the seat's roots in one cut). By AI agents, Wed Nov 11 2026. No macro, syntax, notation, axiom, sorry.
-/
import Derived.Test.YtopbiamlmdpphabChecked
import GoSem.Claim
import GoSem.ClaimJoined
import GoSem.ClaimMapViews
import Derived.JoinedTies
import Derived.KernelRfl
namespace Go.Proofs.Ytopbiamlmdpphab
/- THE CELL 'sum', in the pinned program and in every row, IS THE sha256 OF THE DUMP (.gsa) THAT YtopbiamlmdpphabProg.lean LOADS. Nothing in Lean hashes anything: it is a label: what it is worth is what the hold of that sum in a sandbox is worth. -/
noncomputable def Try.pinned : Pinned := { name := "ytopbiamlmdpphab", sum := "1e7faf91aace1922748a1df57dd7f81320718466bad5584c78a2485408069caf", checked := Try.checked }
namespace Rows
def none {H : Type} : Left H := { results := [], args := [] }

/-- 'vendmeterlaw.CheckMuls': WHATEVER THE INPUT: true; the input reads as it did. -/
def checkMulsSpec : ChangeSpec := { name := "checkMuls", fn := fun _ => fun
  | [d1, d2] => { results := [.lit (.bool true)], args := [d1, d2] }
  | _ => none }
def checkMulsRow : OpenClaim := { program := "ytopbiamlmdpphab", sum := "1e7faf91aace1922748a1df57dd7f81320718466bad5584c78a2485408069caf", func := "vendmeter/vendmeterlaw.CheckMuls", spec := "checkMuls", apart := false }
def CheckMulsSaid : Prop := checkMulsRow.holds Try.pinned (OpenSpec.ofChange checkMulsSpec)

/-- ITS FALSE NEIGHBOUR: 'it returns false'. Refute it at one input. -/
def checkMulsWrong : ChangeSpec := { name := "checkMuls", fn := fun _ => fun
  | [d1, d2] => { results := [.lit (.bool false)], args := [d1, d2] }
  | _ => none }
def CheckMulsWrongFalsely : Prop := checkMulsRow.holds Try.pinned (OpenSpec.ofChange checkMulsWrong)

/-- 'vendmeterlaw.CheckInvs': WHATEVER THE INPUT: true; the input reads as it did. -/
def checkInvsSpec : ChangeSpec := { name := "checkInvs", fn := fun _ => fun
  | [d] => { results := [.lit (.bool true)], args := [d] }
  | _ => none }
def checkInvsRow : OpenClaim := { program := "ytopbiamlmdpphab", sum := "1e7faf91aace1922748a1df57dd7f81320718466bad5584c78a2485408069caf", func := "vendmeter/vendmeterlaw.CheckInvs", spec := "checkInvs", apart := false }
def CheckInvsSaid : Prop := checkInvsRow.holds Try.pinned (OpenSpec.ofChange checkInvsSpec)

/-- ITS FALSE NEIGHBOUR: 'it returns false'. Refute it at one input. -/
def checkInvsWrong : ChangeSpec := { name := "checkInvs", fn := fun _ => fun
  | [d] => { results := [.lit (.bool false)], args := [d] }
  | _ => none }
def CheckInvsWrongFalsely : Prop := checkInvsRow.holds Try.pinned (OpenSpec.ofChange checkInvsWrong)

/-- 'vendmeterlaw.CheckRests': WHATEVER THE INPUT: true; the input reads as it did. -/
def checkRestsSpec : ChangeSpec := { name := "checkRests", fn := fun _ => fun
  | [d] => { results := [.lit (.bool true)], args := [d] }
  | _ => none }
def checkRestsRow : OpenClaim := { program := "ytopbiamlmdpphab", sum := "1e7faf91aace1922748a1df57dd7f81320718466bad5584c78a2485408069caf", func := "vendmeter/vendmeterlaw.CheckRests", spec := "checkRests", apart := false }
def CheckRestsSaid : Prop := checkRestsRow.holds Try.pinned (OpenSpec.ofChange checkRestsSpec)

/-- ITS FALSE NEIGHBOUR: 'it returns false'. Refute it at one input. -/
def checkRestsWrong : ChangeSpec := { name := "checkRests", fn := fun _ => fun
  | [d] => { results := [.lit (.bool false)], args := [d] }
  | _ => none }
def CheckRestsWrongFalsely : Prop := checkRestsRow.holds Try.pinned (OpenSpec.ofChange checkRestsWrong)

/-- 'vendmeterkeep.CheckGroup': WHATEVER THE INPUT: true; the input reads as it did. -/
def checkGroupSpec : ChangeSpec := { name := "checkGroup", fn := fun _ => fun
  | [d1, d2, d3] => { results := [.lit (.bool true)], args := [d1, d2, d3] }
  | _ => none }
def checkGroupRow : OpenClaim := { program := "ytopbiamlmdpphab", sum := "1e7faf91aace1922748a1df57dd7f81320718466bad5584c78a2485408069caf", func := "vendmeter/vendmeterkeep.CheckGroup", spec := "checkGroup", apart := false }
def CheckGroupSaid : Prop := checkGroupRow.holds Try.pinned (OpenSpec.ofChange checkGroupSpec)

/-- ITS FALSE NEIGHBOUR: 'it returns false'. Refute it at one input. -/
def checkGroupWrong : ChangeSpec := { name := "checkGroup", fn := fun _ => fun
  | [d1, d2, d3] => { results := [.lit (.bool false)], args := [d1, d2, d3] }
  | _ => none }
def CheckGroupWrongFalsely : Prop := checkGroupRow.holds Try.pinned (OpenSpec.ofChange checkGroupWrong)

/- THE SECOND FORM. 'bulk': how many values and letters a reading holds, each counted each time it is reached (what is shared counts as often as it is met; a slice's spare places count too). A statement '..UptoSaid' is the law's where the arguments, and the package variables that the reading takes, are together of bulk at most 1048576: NARROWER than '..Said'. Prove '..Said' where nothing that the law and all that it calls make is longer than what came in: it says more and counts as full. Else prove '..UptoSaid'. A law counts once. -/
mutual
def uptoBulk {H : Type} : DataW H → Nat
  | .lit (.string bytes) => bytes.length + 1
  | .lit _ => 1
  | .nil => 1
  | .ptr d => uptoBulk d + 1
  | .slice elems spare => uptoBulkAll elems + uptoBulkAll spare + 1
  | .agg parts => uptoBulkAll parts + 1
  | .iface _ d => uptoBulk d + 1
  | .map entries => uptoBulkEntries entries + 1
  | .held _ => 1
def uptoBulkAll {H : Type} : List (DataW H) → Nat
  | [] => 0
  | d :: r => uptoBulk d + uptoBulkAll r
def uptoBulkEntries {H : Type} : List (Lit × DataW H) → Nat
  | [] => 0
  | x :: r => uptoBulkEntry x + uptoBulkEntries r
def uptoBulkEntry {H : Type} : Lit × DataW H → Nat
  | (.string bytes, d) => bytes.length + uptoBulk d + 1
  | (_, d) => uptoBulk d + 1
 end
def uptoSmall : (H : Type) → List (DataW H) → Bool := fun _ ds => decide (uptoBulkAll ds ≤ 1048576)
def OpenSpec.upto (s : _root_.Go.ChangeSpec) : _root_.Go.OpenSpec := { _root_.Go.OpenSpec.ofChange s with cond := some uptoSmall }

/-- 'vendmeterlaw.CheckMuls', WHERE WHAT IT READS IS OF BULK AT MOST 1048576: true; the input reads as it did. -/
def checkMulsUptoRow : OpenClaim := { program := "ytopbiamlmdpphab", sum := "1e7faf91aace1922748a1df57dd7f81320718466bad5584c78a2485408069caf", func := "vendmeter/vendmeterlaw.CheckMuls", spec := "checkMuls", apart := false, narrowed := true }
def CheckMulsUptoSaid : Prop := checkMulsUptoRow.holds Try.pinned (OpenSpec.upto checkMulsSpec)

/-- 'vendmeterlaw.CheckInvs', WHERE WHAT IT READS IS OF BULK AT MOST 1048576: true; the input reads as it did. -/
def checkInvsUptoRow : OpenClaim := { program := "ytopbiamlmdpphab", sum := "1e7faf91aace1922748a1df57dd7f81320718466bad5584c78a2485408069caf", func := "vendmeter/vendmeterlaw.CheckInvs", spec := "checkInvs", apart := false, narrowed := true }
def CheckInvsUptoSaid : Prop := checkInvsUptoRow.holds Try.pinned (OpenSpec.upto checkInvsSpec)

/-- 'vendmeterlaw.CheckRests', WHERE WHAT IT READS IS OF BULK AT MOST 1048576: true; the input reads as it did. -/
def checkRestsUptoRow : OpenClaim := { program := "ytopbiamlmdpphab", sum := "1e7faf91aace1922748a1df57dd7f81320718466bad5584c78a2485408069caf", func := "vendmeter/vendmeterlaw.CheckRests", spec := "checkRests", apart := false, narrowed := true }
def CheckRestsUptoSaid : Prop := checkRestsUptoRow.holds Try.pinned (OpenSpec.upto checkRestsSpec)

/-- 'vendmeterkeep.CheckGroup', WHERE WHAT IT READS IS OF BULK AT MOST 1048576: true; the input reads as it did. -/
def checkGroupUptoRow : OpenClaim := { program := "ytopbiamlmdpphab", sum := "1e7faf91aace1922748a1df57dd7f81320718466bad5584c78a2485408069caf", func := "vendmeter/vendmeterkeep.CheckGroup", spec := "checkGroup", apart := false, narrowed := true }
def CheckGroupUptoSaid : Prop := checkGroupUptoRow.holds Try.pinned (OpenSpec.upto checkGroupSpec)

end Rows
end Go.Proofs.Ytopbiamlmdpphab
