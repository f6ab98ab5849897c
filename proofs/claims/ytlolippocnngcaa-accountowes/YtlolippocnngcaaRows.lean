/-
  No cell of these rows narrows 'for every input' (looked for: loops, veiled, ifaces, maps, wideKeys, modest, calm, conditions, laid).
  DERIVED. THE GIVEN ROWS OF THIS SEAT. 6 by the template 'for every input the law returns true; each argument reads behind the call as it read before'; 0 by the template 'total and deterministic' (their statements: YtlolippocnngcaaTotals.lean).
  GIVEN WITH THE SEED: the statements are not yours to turn. If you find one false, say at which input.
  Laid BY PROGRAM, IN A SANDBOX (cutbox-rows.mjs): the forced cells as the released guide's own fill.sh prints them over the translation 39ca876118ec7d6c… (all of the seat's roots in one cut). By AI agents, Wed Nov 11 2026. No macro, syntax, notation, axiom, sorry.
-/
import Derived.Test.YtlolippocnngcaaChecked
import GoSem.Claim
import GoSem.ClaimJoined
import GoSem.ClaimMapViews
import Derived.JoinedTies
import Derived.KernelRfl
namespace Go.Proofs.Ytlolippocnngcaa
/- THE CELL 'sum', in the pinned program and in every row, IS THE sha256 OF THE DUMP (.gsa) THAT YtlolippocnngcaaProg.lean LOADS. Nothing in Lean hashes anything: it is a label: what it is worth is what the hold of that sum in a sandbox is worth. -/
noncomputable def Try.pinned : Pinned := { name := "ytlolippocnngcaa", sum := "39ca876118ec7d6cb9d4f331a7bd3e7077fa9702e8587a43fef7e9522b11ab34", checked := Try.checked }
namespace Rows
def none {H : Type} : Left H := { results := [], args := [] }

/-- 'vendmeterlaw.AccountChecks': WHATEVER THE INPUT: true; the input reads as it did. -/
def accountChecksSpec : ChangeSpec := { name := "accountChecks", fn := fun _ => fun
  | [d] => { results := [.lit (.bool true)], args := [d] }
  | _ => none }
def accountChecksRow : OpenClaim := { program := "ytlolippocnngcaa", sum := "39ca876118ec7d6cb9d4f331a7bd3e7077fa9702e8587a43fef7e9522b11ab34", func := "vendmeter/vendmeterlaw.AccountChecks", spec := "accountChecks", apart := false }
def AccountChecksSaid : Prop := accountChecksRow.holds Try.pinned (OpenSpec.ofChange accountChecksSpec)

/-- ITS FALSE NEIGHBOUR: 'it returns false'. Refute it at one input. -/
def accountChecksWrong : ChangeSpec := { name := "accountChecks", fn := fun _ => fun
  | [d] => { results := [.lit (.bool false)], args := [d] }
  | _ => none }
def AccountChecksWrongFalsely : Prop := accountChecksRow.holds Try.pinned (OpenSpec.ofChange accountChecksWrong)

/-- 'vendmeterlaw.AccountOpens': WHATEVER THE INPUT: true; the input reads as it did. -/
def accountOpensSpec : ChangeSpec := { name := "accountOpens", fn := fun _ => fun
  | [d] => { results := [.lit (.bool true)], args := [d] }
  | _ => none }
def accountOpensRow : OpenClaim := { program := "ytlolippocnngcaa", sum := "39ca876118ec7d6cb9d4f331a7bd3e7077fa9702e8587a43fef7e9522b11ab34", func := "vendmeter/vendmeterlaw.AccountOpens", spec := "accountOpens", apart := false }
def AccountOpensSaid : Prop := accountOpensRow.holds Try.pinned (OpenSpec.ofChange accountOpensSpec)

/-- ITS FALSE NEIGHBOUR: 'it returns false'. Refute it at one input. -/
def accountOpensWrong : ChangeSpec := { name := "accountOpens", fn := fun _ => fun
  | [d] => { results := [.lit (.bool false)], args := [d] }
  | _ => none }
def AccountOpensWrongFalsely : Prop := accountOpensRow.holds Try.pinned (OpenSpec.ofChange accountOpensWrong)

/-- 'vendmeterlaw.AccountRolls': WHATEVER THE INPUT: true; the input reads as it did. -/
def accountRollsSpec : ChangeSpec := { name := "accountRolls", fn := fun _ => fun
  | [d1, d2] => { results := [.lit (.bool true)], args := [d1, d2] }
  | _ => none }
def accountRollsRow : OpenClaim := { program := "ytlolippocnngcaa", sum := "39ca876118ec7d6cb9d4f331a7bd3e7077fa9702e8587a43fef7e9522b11ab34", func := "vendmeter/vendmeterlaw.AccountRolls", spec := "accountRolls", unfollowed := true, recurses := true, apart := false }
def AccountRollsSaid : Prop := accountRollsRow.holds Try.pinned (OpenSpec.ofChange accountRollsSpec)

/-- ITS FALSE NEIGHBOUR: 'it returns false'. Refute it at one input. -/
def accountRollsWrong : ChangeSpec := { name := "accountRolls", fn := fun _ => fun
  | [d1, d2] => { results := [.lit (.bool false)], args := [d1, d2] }
  | _ => none }
def AccountRollsWrongFalsely : Prop := accountRollsRow.holds Try.pinned (OpenSpec.ofChange accountRollsWrong)

/-- 'vendmeterlaw.AccountSells': WHATEVER THE INPUT: true; the input reads as it did. -/
def accountSellsSpec : ChangeSpec := { name := "accountSells", fn := fun _ => fun
  | [d1, d2, d3, d4] => { results := [.lit (.bool true)], args := [d1, d2, d3, d4] }
  | _ => none }
def accountSellsRow : OpenClaim := { program := "ytlolippocnngcaa", sum := "39ca876118ec7d6cb9d4f331a7bd3e7077fa9702e8587a43fef7e9522b11ab34", func := "vendmeter/vendmeterlaw.AccountSells", spec := "accountSells", unfollowed := true, recurses := true, apart := false }
def AccountSellsSaid : Prop := accountSellsRow.holds Try.pinned (OpenSpec.ofChange accountSellsSpec)

/-- ITS FALSE NEIGHBOUR: 'it returns false'. Refute it at one input. -/
def accountSellsWrong : ChangeSpec := { name := "accountSells", fn := fun _ => fun
  | [d1, d2, d3, d4] => { results := [.lit (.bool false)], args := [d1, d2, d3, d4] }
  | _ => none }
def AccountSellsWrongFalsely : Prop := accountSellsRow.holds Try.pinned (OpenSpec.ofChange accountSellsWrong)

/-- 'vendmeterlaw.AccountGrants': WHATEVER THE INPUT: true; the input reads as it did. -/
def accountGrantsSpec : ChangeSpec := { name := "accountGrants", fn := fun _ => fun
  | [d1, d2, d3] => { results := [.lit (.bool true)], args := [d1, d2, d3] }
  | _ => none }
def accountGrantsRow : OpenClaim := { program := "ytlolippocnngcaa", sum := "39ca876118ec7d6cb9d4f331a7bd3e7077fa9702e8587a43fef7e9522b11ab34", func := "vendmeter/vendmeterlaw.AccountGrants", spec := "accountGrants", unfollowed := true, recurses := true, apart := false }
def AccountGrantsSaid : Prop := accountGrantsRow.holds Try.pinned (OpenSpec.ofChange accountGrantsSpec)

/-- ITS FALSE NEIGHBOUR: 'it returns false'. Refute it at one input. -/
def accountGrantsWrong : ChangeSpec := { name := "accountGrants", fn := fun _ => fun
  | [d1, d2, d3] => { results := [.lit (.bool false)], args := [d1, d2, d3] }
  | _ => none }
def AccountGrantsWrongFalsely : Prop := accountGrantsRow.holds Try.pinned (OpenSpec.ofChange accountGrantsWrong)

/-- 'vendmeterlaw.AccountOwes': WHATEVER THE INPUT: true; the input reads as it did. -/
def accountOwesSpec : ChangeSpec := { name := "accountOwes", fn := fun _ => fun
  | [d1, d2] => { results := [.lit (.bool true)], args := [d1, d2] }
  | _ => none }
def accountOwesRow : OpenClaim := { program := "ytlolippocnngcaa", sum := "39ca876118ec7d6cb9d4f331a7bd3e7077fa9702e8587a43fef7e9522b11ab34", func := "vendmeter/vendmeterlaw.AccountOwes", spec := "accountOwes", unfollowed := true, recurses := true, apart := false }
def AccountOwesSaid : Prop := accountOwesRow.holds Try.pinned (OpenSpec.ofChange accountOwesSpec)

/-- ITS FALSE NEIGHBOUR: 'it returns false'. Refute it at one input. -/
def accountOwesWrong : ChangeSpec := { name := "accountOwes", fn := fun _ => fun
  | [d1, d2] => { results := [.lit (.bool false)], args := [d1, d2] }
  | _ => none }
def AccountOwesWrongFalsely : Prop := accountOwesRow.holds Try.pinned (OpenSpec.ofChange accountOwesWrong)

/- THE SECOND FORM. 'bulk': how many values and letters a reading holds, each counted each time it is reached (what is shared counts as often as it is met; a slice's spare places count too). A statement '..UptoSaid' is the law's where the arguments, and the package variables that the reading takes, are together of bulk at most 1048576: NARROWER than '..Said'. Prove '..Said' where nothing that the law and all that it calls make is longer than what came in: it says more and counts as full. Else prove '..UptoSaid'. A law counts once. -/
mutual
def uptoBulk {H : Type} : DataW H → Nat
  | .lit (.string bytes) => bytes.length + 1
  | .lit _ => 1
  | .nil => 1
  | .ptr d => uptoBulk d + 1
  | .slice elems spare => uptoBulkAll elems + uptoBulkAll spare + 1
  | .agg parts => uptoBulkAll parts + 1
  | .iface _ d => uptoBulk d + 1
  | .map entries => uptoBulkEntries entries + 1
  | .held _ => 1
def uptoBulkAll {H : Type} : List (DataW H) → Nat
  | [] => 0
  | d :: r => uptoBulk d + uptoBulkAll r
def uptoBulkEntries {H : Type} : List (Lit × DataW H) → Nat
  | [] => 0
  | x :: r => uptoBulkEntry x + uptoBulkEntries r
def uptoBulkEntry {H : Type} : Lit × DataW H → Nat
  | (.string bytes, d) => bytes.length + uptoBulk d + 1
  | (_, d) => uptoBulk d + 1
 end
def uptoSmall : (H : Type) → List (DataW H) → Bool := fun _ ds => decide (uptoBulkAll ds ≤ 1048576)
def OpenSpec.upto (s : _root_.Go.ChangeSpec) : _root_.Go.OpenSpec := { _root_.Go.OpenSpec.ofChange s with cond := some uptoSmall }

/-- 'vendmeterlaw.AccountChecks', WHERE WHAT IT READS IS OF BULK AT MOST 1048576: true; the input reads as it did. -/
def accountChecksUptoRow : OpenClaim := { program := "ytlolippocnngcaa", sum := "39ca876118ec7d6cb9d4f331a7bd3e7077fa9702e8587a43fef7e9522b11ab34", func := "vendmeter/vendmeterlaw.AccountChecks", spec := "accountChecks", apart := false, narrowed := true }
def AccountChecksUptoSaid : Prop := accountChecksUptoRow.holds Try.pinned (OpenSpec.upto accountChecksSpec)

/-- 'vendmeterlaw.AccountOpens', WHERE WHAT IT READS IS OF BULK AT MOST 1048576: true; the input reads as it did. -/
def accountOpensUptoRow : OpenClaim := { program := "ytlolippocnngcaa", sum := "39ca876118ec7d6cb9d4f331a7bd3e7077fa9702e8587a43fef7e9522b11ab34", func := "vendmeter/vendmeterlaw.AccountOpens", spec := "accountOpens", apart := false, narrowed := true }
def AccountOpensUptoSaid : Prop := accountOpensUptoRow.holds Try.pinned (OpenSpec.upto accountOpensSpec)

/-- 'vendmeterlaw.AccountRolls', WHERE WHAT IT READS IS OF BULK AT MOST 1048576: true; the input reads as it did. -/
def accountRollsUptoRow : OpenClaim := { program := "ytlolippocnngcaa", sum := "39ca876118ec7d6cb9d4f331a7bd3e7077fa9702e8587a43fef7e9522b11ab34", func := "vendmeter/vendmeterlaw.AccountRolls", spec := "accountRolls", unfollowed := true, recurses := true, apart := false, narrowed := true }
def AccountRollsUptoSaid : Prop := accountRollsUptoRow.holds Try.pinned (OpenSpec.upto accountRollsSpec)

/-- 'vendmeterlaw.AccountSells', WHERE WHAT IT READS IS OF BULK AT MOST 1048576: true; the input reads as it did. -/
def accountSellsUptoRow : OpenClaim := { program := "ytlolippocnngcaa", sum := "39ca876118ec7d6cb9d4f331a7bd3e7077fa9702e8587a43fef7e9522b11ab34", func := "vendmeter/vendmeterlaw.AccountSells", spec := "accountSells", unfollowed := true, recurses := true, apart := false, narrowed := true }
def AccountSellsUptoSaid : Prop := accountSellsUptoRow.holds Try.pinned (OpenSpec.upto accountSellsSpec)

/-- 'vendmeterlaw.AccountGrants', WHERE WHAT IT READS IS OF BULK AT MOST 1048576: true; the input reads as it did. -/
def accountGrantsUptoRow : OpenClaim := { program := "ytlolippocnngcaa", sum := "39ca876118ec7d6cb9d4f331a7bd3e7077fa9702e8587a43fef7e9522b11ab34", func := "vendmeter/vendmeterlaw.AccountGrants", spec := "accountGrants", unfollowed := true, recurses := true, apart := false, narrowed := true }
def AccountGrantsUptoSaid : Prop := accountGrantsUptoRow.holds Try.pinned (OpenSpec.upto accountGrantsSpec)

/-- 'vendmeterlaw.AccountOwes', WHERE WHAT IT READS IS OF BULK AT MOST 1048576: true; the input reads as it did. -/
def accountOwesUptoRow : OpenClaim := { program := "ytlolippocnngcaa", sum := "39ca876118ec7d6cb9d4f331a7bd3e7077fa9702e8587a43fef7e9522b11ab34", func := "vendmeter/vendmeterlaw.AccountOwes", spec := "accountOwes", unfollowed := true, recurses := true, apart := false, narrowed := true }
def AccountOwesUptoSaid : Prop := accountOwesUptoRow.holds Try.pinned (OpenSpec.upto accountOwesSpec)

end Rows
end Go.Proofs.Ytlolippocnngcaa
