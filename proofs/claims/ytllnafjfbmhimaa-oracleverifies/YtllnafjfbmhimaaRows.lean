/-
  No cell of these rows narrows 'for every input' (looked for: loops, veiled, ifaces, maps, wideKeys, modest, calm, conditions, laid).
  DERIVED. THE GIVEN ROWS OF THIS SEAT. 5 by the template 'for every input the law returns true; each argument reads behind the call as it read before'; 0 by the template 'total and deterministic' (their statements: YtllnafjfbmhimaaTotals.lean).
  GIVEN WITH THE SEED: the statements are not yours to turn. If you find one false, say at which input.
  Laid BY PROGRAM, IN A SANDBOX (cutbox-rows.mjs): the forced cells as the released guide's own fill.sh prints them over the translation fb64d120e79c1048… (all of the seat's roots in one cut). By AI agents, Wed Nov 11 2026. No macro, syntax, notation, axiom, sorry.
-/
import Derived.Test.YtllnafjfbmhimaaChecked
import GoSem.Claim
import GoSem.ClaimJoined
import GoSem.ClaimMapViews
import Derived.JoinedTies
import Derived.KernelRfl
namespace Go.Proofs.Ytllnafjfbmhimaa
/- THE CELL 'sum', in the pinned program and in every row, IS THE sha256 OF THE DUMP (.gsa) THAT YtllnafjfbmhimaaProg.lean LOADS. Nothing in Lean hashes anything: it is a label: what it is worth is what the hold of that sum in a sandbox is worth. -/
noncomputable def Try.pinned : Pinned := { name := "ytllnafjfbmhimaa", sum := "fb64d120e79c1048f5e7f54f1486cb6999143eaaa069b5306eef43c7471b47ca", checked := Try.checked }
namespace Rows
def none {H : Type} : Left H := { results := [], args := [] }

/-- 'vendmeterlaw.OracleMays': WHATEVER THE INPUT: true; the input reads as it did. -/
def oracleMaysSpec : ChangeSpec := { name := "oracleMays", fn := fun _ => fun
  | [d] => { results := [.lit (.bool true)], args := [d] }
  | _ => none }
def oracleMaysRow : OpenClaim := { program := "ytllnafjfbmhimaa", sum := "fb64d120e79c1048f5e7f54f1486cb6999143eaaa069b5306eef43c7471b47ca", func := "vendmeter/vendmeterlaw.OracleMays", spec := "oracleMays", plainKeys := false, apart := false }
def OracleMaysSaid : Prop := oracleMaysRow.holds Try.pinned (OpenSpec.ofChange oracleMaysSpec)

/-- ITS FALSE NEIGHBOUR: 'it returns false'. Refute it at one input. -/
def oracleMaysWrong : ChangeSpec := { name := "oracleMays", fn := fun _ => fun
  | [d] => { results := [.lit (.bool false)], args := [d] }
  | _ => none }
def OracleMaysWrongFalsely : Prop := oracleMaysRow.holds Try.pinned (OpenSpec.ofChange oracleMaysWrong)

/-- 'vendmeterlaw.OracleIssues': WHATEVER THE INPUT: true; the input reads as it did. -/
def oracleIssuesSpec : ChangeSpec := { name := "oracleIssues", fn := fun _ => fun
  | [d1, d2, d3, d4, d5] => { results := [.lit (.bool true)], args := [d1, d2, d3, d4, d5] }
  | _ => none }
def oracleIssuesRow : OpenClaim := { program := "ytllnafjfbmhimaa", sum := "fb64d120e79c1048f5e7f54f1486cb6999143eaaa069b5306eef43c7471b47ca", func := "vendmeter/vendmeterlaw.OracleIssues", spec := "oracleIssues", plainKeys := false, apart := false }
def OracleIssuesSaid : Prop := oracleIssuesRow.holds Try.pinned (OpenSpec.ofChange oracleIssuesSpec)

/-- ITS FALSE NEIGHBOUR: 'it returns false'. Refute it at one input. -/
def oracleIssuesWrong : ChangeSpec := { name := "oracleIssues", fn := fun _ => fun
  | [d1, d2, d3, d4, d5] => { results := [.lit (.bool false)], args := [d1, d2, d3, d4, d5] }
  | _ => none }
def OracleIssuesWrongFalsely : Prop := oracleIssuesRow.holds Try.pinned (OpenSpec.ofChange oracleIssuesWrong)

/-- 'vendmeterlaw.OracleVerifies': WHATEVER THE INPUT: true; the input reads as it did. -/
def oracleVerifiesSpec : ChangeSpec := { name := "oracleVerifies", fn := fun _ => fun
  | [d1, d2, d3, d4, d5] => { results := [.lit (.bool true)], args := [d1, d2, d3, d4, d5] }
  | _ => none }
def oracleVerifiesRow : OpenClaim := { program := "ytllnafjfbmhimaa", sum := "fb64d120e79c1048f5e7f54f1486cb6999143eaaa069b5306eef43c7471b47ca", func := "vendmeter/vendmeterlaw.OracleVerifies", spec := "oracleVerifies", plainKeys := false, apart := false }
def OracleVerifiesSaid : Prop := oracleVerifiesRow.holds Try.pinned (OpenSpec.ofChange oracleVerifiesSpec)

/-- ITS FALSE NEIGHBOUR: 'it returns false'. Refute it at one input. -/
def oracleVerifiesWrong : ChangeSpec := { name := "oracleVerifies", fn := fun _ => fun
  | [d1, d2, d3, d4, d5] => { results := [.lit (.bool false)], args := [d1, d2, d3, d4, d5] }
  | _ => none }
def OracleVerifiesWrongFalsely : Prop := oracleVerifiesRow.holds Try.pinned (OpenSpec.ofChange oracleVerifiesWrong)

/-- 'vendmeterkeep.OracleOnly': WHATEVER THE INPUT: true; the input reads as it did. -/
def oracleOnlySpec : ChangeSpec := { name := "oracleOnly", fn := fun _ => fun
  | [d1, d2] => { results := [.lit (.bool true)], args := [d1, d2] }
  | _ => none }
def oracleOnlyRow : OpenClaim := { program := "ytllnafjfbmhimaa", sum := "fb64d120e79c1048f5e7f54f1486cb6999143eaaa069b5306eef43c7471b47ca", func := "vendmeter/vendmeterkeep.OracleOnly", spec := "oracleOnly", plainKeys := false, apart := false }
def OracleOnlySaid : Prop := oracleOnlyRow.holds Try.pinned (OpenSpec.ofChange oracleOnlySpec)

/-- ITS FALSE NEIGHBOUR: 'it returns false'. Refute it at one input. -/
def oracleOnlyWrong : ChangeSpec := { name := "oracleOnly", fn := fun _ => fun
  | [d1, d2] => { results := [.lit (.bool false)], args := [d1, d2] }
  | _ => none }
def OracleOnlyWrongFalsely : Prop := oracleOnlyRow.holds Try.pinned (OpenSpec.ofChange oracleOnlyWrong)

/-- 'vendmeterkeep.OracleAgain': WHATEVER THE INPUT: true; the input reads as it did. -/
def oracleAgainSpec : ChangeSpec := { name := "oracleAgain", fn := fun _ => fun
  | [d1, d2, d3] => { results := [.lit (.bool true)], args := [d1, d2, d3] }
  | _ => none }
def oracleAgainRow : OpenClaim := { program := "ytllnafjfbmhimaa", sum := "fb64d120e79c1048f5e7f54f1486cb6999143eaaa069b5306eef43c7471b47ca", func := "vendmeter/vendmeterkeep.OracleAgain", spec := "oracleAgain", plainKeys := false, apart := false }
def OracleAgainSaid : Prop := oracleAgainRow.holds Try.pinned (OpenSpec.ofChange oracleAgainSpec)

/-- ITS FALSE NEIGHBOUR: 'it returns false'. Refute it at one input. -/
def oracleAgainWrong : ChangeSpec := { name := "oracleAgain", fn := fun _ => fun
  | [d1, d2, d3] => { results := [.lit (.bool false)], args := [d1, d2, d3] }
  | _ => none }
def OracleAgainWrongFalsely : Prop := oracleAgainRow.holds Try.pinned (OpenSpec.ofChange oracleAgainWrong)

/- THE SECOND FORM. 'bulk': how many values and letters a reading holds, each counted each time it is reached (what is shared counts as often as it is met; a slice's spare places count too). A statement '..UptoSaid' is the law's where the arguments, and the package variables that the reading takes, are together of bulk at most 1048576: NARROWER than '..Said'. Prove '..Said' where nothing that the law and all that it calls make is longer than what came in: it says more and counts as full. Else prove '..UptoSaid'. A law counts once. -/
mutual
def uptoBulk {H : Type} : DataW H → Nat
  | .lit (.string bytes) => bytes.length + 1
  | .lit _ => 1
  | .nil => 1
  | .ptr d => uptoBulk d + 1
  | .slice elems spare => uptoBulkAll elems + uptoBulkAll spare + 1
  | .agg parts => uptoBulkAll parts + 1
  | .iface _ d => uptoBulk d + 1
  | .map entries => uptoBulkEntries entries + 1
  | .held _ => 1
def uptoBulkAll {H : Type} : List (DataW H) → Nat
  | [] => 0
  | d :: r => uptoBulk d + uptoBulkAll r
def uptoBulkEntries {H : Type} : List (Lit × DataW H) → Nat
  | [] => 0
  | x :: r => uptoBulkEntry x + uptoBulkEntries r
def uptoBulkEntry {H : Type} : Lit × DataW H → Nat
  | (.string bytes, d) => bytes.length + uptoBulk d + 1
  | (_, d) => uptoBulk d + 1
 end
def uptoSmall : (H : Type) → List (DataW H) → Bool := fun _ ds => decide (uptoBulkAll ds ≤ 1048576)
def OpenSpec.upto (s : _root_.Go.ChangeSpec) : _root_.Go.OpenSpec := { _root_.Go.OpenSpec.ofChange s with cond := some uptoSmall }

/-- 'vendmeterlaw.OracleMays', WHERE WHAT IT READS IS OF BULK AT MOST 1048576: true; the input reads as it did. -/
def oracleMaysUptoRow : OpenClaim := { program := "ytllnafjfbmhimaa", sum := "fb64d120e79c1048f5e7f54f1486cb6999143eaaa069b5306eef43c7471b47ca", func := "vendmeter/vendmeterlaw.OracleMays", spec := "oracleMays", plainKeys := false, apart := false, narrowed := true }
def OracleMaysUptoSaid : Prop := oracleMaysUptoRow.holds Try.pinned (OpenSpec.upto oracleMaysSpec)

/-- 'vendmeterlaw.OracleIssues', WHERE WHAT IT READS IS OF BULK AT MOST 1048576: true; the input reads as it did. -/
def oracleIssuesUptoRow : OpenClaim := { program := "ytllnafjfbmhimaa", sum := "fb64d120e79c1048f5e7f54f1486cb6999143eaaa069b5306eef43c7471b47ca", func := "vendmeter/vendmeterlaw.OracleIssues", spec := "oracleIssues", plainKeys := false, apart := false, narrowed := true }
def OracleIssuesUptoSaid : Prop := oracleIssuesUptoRow.holds Try.pinned (OpenSpec.upto oracleIssuesSpec)

/-- 'vendmeterlaw.OracleVerifies', WHERE WHAT IT READS IS OF BULK AT MOST 1048576: true; the input reads as it did. -/
def oracleVerifiesUptoRow : OpenClaim := { program := "ytllnafjfbmhimaa", sum := "fb64d120e79c1048f5e7f54f1486cb6999143eaaa069b5306eef43c7471b47ca", func := "vendmeter/vendmeterlaw.OracleVerifies", spec := "oracleVerifies", plainKeys := false, apart := false, narrowed := true }
def OracleVerifiesUptoSaid : Prop := oracleVerifiesUptoRow.holds Try.pinned (OpenSpec.upto oracleVerifiesSpec)

/-- 'vendmeterkeep.OracleOnly', WHERE WHAT IT READS IS OF BULK AT MOST 1048576: true; the input reads as it did. -/
def oracleOnlyUptoRow : OpenClaim := { program := "ytllnafjfbmhimaa", sum := "fb64d120e79c1048f5e7f54f1486cb6999143eaaa069b5306eef43c7471b47ca", func := "vendmeter/vendmeterkeep.OracleOnly", spec := "oracleOnly", plainKeys := false, apart := false, narrowed := true }
def OracleOnlyUptoSaid : Prop := oracleOnlyUptoRow.holds Try.pinned (OpenSpec.upto oracleOnlySpec)

/-- 'vendmeterkeep.OracleAgain', WHERE WHAT IT READS IS OF BULK AT MOST 1048576: true; the input reads as it did. -/
def oracleAgainUptoRow : OpenClaim := { program := "ytllnafjfbmhimaa", sum := "fb64d120e79c1048f5e7f54f1486cb6999143eaaa069b5306eef43c7471b47ca", func := "vendmeter/vendmeterkeep.OracleAgain", spec := "oracleAgain", plainKeys := false, apart := false, narrowed := true }
def OracleAgainUptoSaid : Prop := oracleAgainUptoRow.holds Try.pinned (OpenSpec.upto oracleAgainSpec)

end Rows
end Go.Proofs.Ytllnafjfbmhimaa
