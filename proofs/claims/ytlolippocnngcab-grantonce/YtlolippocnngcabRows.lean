/-
  No cell of these rows narrows 'for every input' (looked for: loops, veiled, ifaces, maps, wideKeys, modest, calm, conditions, laid).
  DERIVED. THE GIVEN ROWS OF THIS SEAT. 6 by the template 'for every input the law returns true; each argument reads behind the call as it read before'; 0 by the template 'total and deterministic' (their statements: YtlolippocnngcabTotals.lean).
  GIVEN WITH THE SEED: the statements are not yours to turn. If you find one false, say at which input.
  Laid BY PROGRAM, IN A SANDBOX (cutbox-rows.mjs): the forced cells as the released guide's own fill.sh prints them over the translation bab1b0e90b3a36d7… (all of the seat's roots in one cut). By AI agents, Wed Nov 11 2026. No macro, syntax, notation, axiom, sorry.
-/
import Derived.Test.YtlolippocnngcabChecked
import GoSem.Claim
import GoSem.ClaimJoined
import GoSem.ClaimMapViews
import Derived.JoinedTies
import Derived.KernelRfl
namespace Go.Proofs.Ytlolippocnngcab
/- THE CELL 'sum', in the pinned program and in every row, IS THE sha256 OF THE DUMP (.gsa) THAT YtlolippocnngcabProg.lean LOADS. Nothing in Lean hashes anything: it is a label: what it is worth is what the hold of that sum in a sandbox is worth. -/
noncomputable def Try.pinned : Pinned := { name := "ytlolippocnngcab", sum := "bab1b0e90b3a36d7b95d89fb8b083808dc5a9f49966292446fed8ed47ce8909b", checked := Try.checked }
namespace Rows
def none {H : Type} : Left H := { results := [], args := [] }

/-- 'vendmeterlaw.AccountRekeys': WHATEVER THE INPUT: true; the input reads as it did. -/
def accountRekeysSpec : ChangeSpec := { name := "accountRekeys", fn := fun _ => fun
  | [d] => { results := [.lit (.bool true)], args := [d] }
  | _ => none }
def accountRekeysRow : OpenClaim := { program := "ytlolippocnngcab", sum := "bab1b0e90b3a36d7b95d89fb8b083808dc5a9f49966292446fed8ed47ce8909b", func := "vendmeter/vendmeterlaw.AccountRekeys", spec := "accountRekeys", unfollowed := true, recurses := true, apart := false }
def AccountRekeysSaid : Prop := accountRekeysRow.holds Try.pinned (OpenSpec.ofChange accountRekeysSpec)

/-- ITS FALSE NEIGHBOUR: 'it returns false'. Refute it at one input. -/
def accountRekeysWrong : ChangeSpec := { name := "accountRekeys", fn := fun _ => fun
  | [d] => { results := [.lit (.bool false)], args := [d] }
  | _ => none }
def AccountRekeysWrongFalsely : Prop := accountRekeysRow.holds Try.pinned (OpenSpec.ofChange accountRekeysWrong)

/-- 'vendmeterkeep.SellAdds': WHATEVER THE INPUT: true; the input reads as it did. -/
def sellAddsSpec : ChangeSpec := { name := "sellAdds", fn := fun _ => fun
  | [d1, d2, d3, d4] => { results := [.lit (.bool true)], args := [d1, d2, d3, d4] }
  | _ => none }
def sellAddsRow : OpenClaim := { program := "ytlolippocnngcab", sum := "bab1b0e90b3a36d7b95d89fb8b083808dc5a9f49966292446fed8ed47ce8909b", func := "vendmeter/vendmeterkeep.SellAdds", spec := "sellAdds", unfollowed := true, recurses := true, apart := false }
def SellAddsSaid : Prop := sellAddsRow.holds Try.pinned (OpenSpec.ofChange sellAddsSpec)

/-- ITS FALSE NEIGHBOUR: 'it returns false'. Refute it at one input. -/
def sellAddsWrong : ChangeSpec := { name := "sellAdds", fn := fun _ => fun
  | [d1, d2, d3, d4] => { results := [.lit (.bool false)], args := [d1, d2, d3, d4] }
  | _ => none }
def SellAddsWrongFalsely : Prop := sellAddsRow.holds Try.pinned (OpenSpec.ofChange sellAddsWrong)

/-- 'vendmeterkeep.SellMost': WHATEVER THE INPUT: true; the input reads as it did. -/
def sellMostSpec : ChangeSpec := { name := "sellMost", fn := fun _ => fun
  | [d1, d2, d3, d4] => { results := [.lit (.bool true)], args := [d1, d2, d3, d4] }
  | _ => none }
def sellMostRow : OpenClaim := { program := "ytlolippocnngcab", sum := "bab1b0e90b3a36d7b95d89fb8b083808dc5a9f49966292446fed8ed47ce8909b", func := "vendmeter/vendmeterkeep.SellMost", spec := "sellMost", unfollowed := true, recurses := true, apart := false }
def SellMostSaid : Prop := sellMostRow.holds Try.pinned (OpenSpec.ofChange sellMostSpec)

/-- ITS FALSE NEIGHBOUR: 'it returns false'. Refute it at one input. -/
def sellMostWrong : ChangeSpec := { name := "sellMost", fn := fun _ => fun
  | [d1, d2, d3, d4] => { results := [.lit (.bool false)], args := [d1, d2, d3, d4] }
  | _ => none }
def SellMostWrongFalsely : Prop := sellMostRow.holds Try.pinned (OpenSpec.ofChange sellMostWrong)

/-- 'vendmeterkeep.SellMoves': WHATEVER THE INPUT: true; the input reads as it did. -/
def sellMovesSpec : ChangeSpec := { name := "sellMoves", fn := fun _ => fun
  | [d1, d2, d3, d4] => { results := [.lit (.bool true)], args := [d1, d2, d3, d4] }
  | _ => none }
def sellMovesRow : OpenClaim := { program := "ytlolippocnngcab", sum := "bab1b0e90b3a36d7b95d89fb8b083808dc5a9f49966292446fed8ed47ce8909b", func := "vendmeter/vendmeterkeep.SellMoves", spec := "sellMoves", unfollowed := true, recurses := true, apart := false }
def SellMovesSaid : Prop := sellMovesRow.holds Try.pinned (OpenSpec.ofChange sellMovesSpec)

/-- ITS FALSE NEIGHBOUR: 'it returns false'. Refute it at one input. -/
def sellMovesWrong : ChangeSpec := { name := "sellMoves", fn := fun _ => fun
  | [d1, d2, d3, d4] => { results := [.lit (.bool false)], args := [d1, d2, d3, d4] }
  | _ => none }
def SellMovesWrongFalsely : Prop := sellMovesRow.holds Try.pinned (OpenSpec.ofChange sellMovesWrong)

/-- 'vendmeterkeep.SellShare': WHATEVER THE INPUT: true; the input reads as it did. -/
def sellShareSpec : ChangeSpec := { name := "sellShare", fn := fun _ => fun
  | [d1, d2, d3] => { results := [.lit (.bool true)], args := [d1, d2, d3] }
  | _ => none }
def sellShareRow : OpenClaim := { program := "ytlolippocnngcab", sum := "bab1b0e90b3a36d7b95d89fb8b083808dc5a9f49966292446fed8ed47ce8909b", func := "vendmeter/vendmeterkeep.SellShare", spec := "sellShare", unfollowed := true, recurses := true, apart := false }
def SellShareSaid : Prop := sellShareRow.holds Try.pinned (OpenSpec.ofChange sellShareSpec)

/-- ITS FALSE NEIGHBOUR: 'it returns false'. Refute it at one input. -/
def sellShareWrong : ChangeSpec := { name := "sellShare", fn := fun _ => fun
  | [d1, d2, d3] => { results := [.lit (.bool false)], args := [d1, d2, d3] }
  | _ => none }
def SellShareWrongFalsely : Prop := sellShareRow.holds Try.pinned (OpenSpec.ofChange sellShareWrong)

/-- 'vendmeterkeep.GrantOnce': WHATEVER THE INPUT: true; the input reads as it did. -/
def grantOnceSpec : ChangeSpec := { name := "grantOnce", fn := fun _ => fun
  | [d1, d2, d3] => { results := [.lit (.bool true)], args := [d1, d2, d3] }
  | _ => none }
def grantOnceRow : OpenClaim := { program := "ytlolippocnngcab", sum := "bab1b0e90b3a36d7b95d89fb8b083808dc5a9f49966292446fed8ed47ce8909b", func := "vendmeter/vendmeterkeep.GrantOnce", spec := "grantOnce", unfollowed := true, recurses := true, apart := false }
def GrantOnceSaid : Prop := grantOnceRow.holds Try.pinned (OpenSpec.ofChange grantOnceSpec)

/-- ITS FALSE NEIGHBOUR: 'it returns false'. Refute it at one input. -/
def grantOnceWrong : ChangeSpec := { name := "grantOnce", fn := fun _ => fun
  | [d1, d2, d3] => { results := [.lit (.bool false)], args := [d1, d2, d3] }
  | _ => none }
def GrantOnceWrongFalsely : Prop := grantOnceRow.holds Try.pinned (OpenSpec.ofChange grantOnceWrong)

/- THE SECOND FORM. 'bulk': how many values and letters a reading holds, each counted each time it is reached (what is shared counts as often as it is met; a slice's spare places count too). A statement '..UptoSaid' is the law's where the arguments, and the package variables that the reading takes, are together of bulk at most 1048576: NARROWER than '..Said'. Prove '..Said' where nothing that the law and all that it calls make is longer than what came in: it says more and counts as full. Else prove '..UptoSaid'. A law counts once. -/
mutual
def uptoBulk {H : Type} : DataW H → Nat
  | .lit (.string bytes) => bytes.length + 1
  | .lit _ => 1
  | .nil => 1
  | .ptr d => uptoBulk d + 1
  | .slice elems spare => uptoBulkAll elems + uptoBulkAll spare + 1
  | .agg parts => uptoBulkAll parts + 1
  | .iface _ d => uptoBulk d + 1
  | .map entries => uptoBulkEntries entries + 1
  | .held _ => 1
def uptoBulkAll {H : Type} : List (DataW H) → Nat
  | [] => 0
  | d :: r => uptoBulk d + uptoBulkAll r
def uptoBulkEntries {H : Type} : List (Lit × DataW H) → Nat
  | [] => 0
  | x :: r => uptoBulkEntry x + uptoBulkEntries r
def uptoBulkEntry {H : Type} : Lit × DataW H → Nat
  | (.string bytes, d) => bytes.length + uptoBulk d + 1
  | (_, d) => uptoBulk d + 1
 end
def uptoSmall : (H : Type) → List (DataW H) → Bool := fun _ ds => decide (uptoBulkAll ds ≤ 1048576)
def OpenSpec.upto (s : _root_.Go.ChangeSpec) : _root_.Go.OpenSpec := { _root_.Go.OpenSpec.ofChange s with cond := some uptoSmall }

/-- 'vendmeterlaw.AccountRekeys', WHERE WHAT IT READS IS OF BULK AT MOST 1048576: true; the input reads as it did. -/
def accountRekeysUptoRow : OpenClaim := { program := "ytlolippocnngcab", sum := "bab1b0e90b3a36d7b95d89fb8b083808dc5a9f49966292446fed8ed47ce8909b", func := "vendmeter/vendmeterlaw.AccountRekeys", spec := "accountRekeys", unfollowed := true, recurses := true, apart := false, narrowed := true }
def AccountRekeysUptoSaid : Prop := accountRekeysUptoRow.holds Try.pinned (OpenSpec.upto accountRekeysSpec)

/-- 'vendmeterkeep.SellAdds', WHERE WHAT IT READS IS OF BULK AT MOST 1048576: true; the input reads as it did. -/
def sellAddsUptoRow : OpenClaim := { program := "ytlolippocnngcab", sum := "bab1b0e90b3a36d7b95d89fb8b083808dc5a9f49966292446fed8ed47ce8909b", func := "vendmeter/vendmeterkeep.SellAdds", spec := "sellAdds", unfollowed := true, recurses := true, apart := false, narrowed := true }
def SellAddsUptoSaid : Prop := sellAddsUptoRow.holds Try.pinned (OpenSpec.upto sellAddsSpec)

/-- 'vendmeterkeep.SellMost', WHERE WHAT IT READS IS OF BULK AT MOST 1048576: true; the input reads as it did. -/
def sellMostUptoRow : OpenClaim := { program := "ytlolippocnngcab", sum := "bab1b0e90b3a36d7b95d89fb8b083808dc5a9f49966292446fed8ed47ce8909b", func := "vendmeter/vendmeterkeep.SellMost", spec := "sellMost", unfollowed := true, recurses := true, apart := false, narrowed := true }
def SellMostUptoSaid : Prop := sellMostUptoRow.holds Try.pinned (OpenSpec.upto sellMostSpec)

/-- 'vendmeterkeep.SellMoves', WHERE WHAT IT READS IS OF BULK AT MOST 1048576: true; the input reads as it did. -/
def sellMovesUptoRow : OpenClaim := { program := "ytlolippocnngcab", sum := "bab1b0e90b3a36d7b95d89fb8b083808dc5a9f49966292446fed8ed47ce8909b", func := "vendmeter/vendmeterkeep.SellMoves", spec := "sellMoves", unfollowed := true, recurses := true, apart := false, narrowed := true }
def SellMovesUptoSaid : Prop := sellMovesUptoRow.holds Try.pinned (OpenSpec.upto sellMovesSpec)

/-- 'vendmeterkeep.SellShare', WHERE WHAT IT READS IS OF BULK AT MOST 1048576: true; the input reads as it did. -/
def sellShareUptoRow : OpenClaim := { program := "ytlolippocnngcab", sum := "bab1b0e90b3a36d7b95d89fb8b083808dc5a9f49966292446fed8ed47ce8909b", func := "vendmeter/vendmeterkeep.SellShare", spec := "sellShare", unfollowed := true, recurses := true, apart := false, narrowed := true }
def SellShareUptoSaid : Prop := sellShareUptoRow.holds Try.pinned (OpenSpec.upto sellShareSpec)

/-- 'vendmeterkeep.GrantOnce', WHERE WHAT IT READS IS OF BULK AT MOST 1048576: true; the input reads as it did. -/
def grantOnceUptoRow : OpenClaim := { program := "ytlolippocnngcab", sum := "bab1b0e90b3a36d7b95d89fb8b083808dc5a9f49966292446fed8ed47ce8909b", func := "vendmeter/vendmeterkeep.GrantOnce", spec := "grantOnce", unfollowed := true, recurses := true, apart := false, narrowed := true }
def GrantOnceUptoSaid : Prop := grantOnceUptoRow.holds Try.pinned (OpenSpec.upto grantOnceSpec)

end Rows
end Go.Proofs.Ytlolippocnngcab
