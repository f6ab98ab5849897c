/-
  No cell of these rows narrows 'for every input' (looked for: loops, veiled, ifaces, maps, wideKeys, modest, calm, conditions, laid).
  DERIVED. THE GIVEN ROWS OF THIS SEAT. 6 by the template 'for every input the law returns true; each argument reads behind the call as it read before'; 0 by the template 'total and deterministic' (their statements: YtodnlecccgiogaaTotals.lean).
  GIVEN WITH THE SEED: the statements are not yours to turn. If you find one false, say at which input.
  Laid BY PROGRAM, IN A SANDBOX (cutbox-rows.mjs): the forced cells as the released guide's own fill.sh prints them over the translation 25c55c2f73390473… (all of the seat's roots in one cut). By AI agents, Wed Nov 11 2026. No macro, syntax, notation, axiom, sorry.
-/
import Derived.Test.YtodnlecccgiogaaChecked
import GoSem.Claim
import GoSem.ClaimJoined
import GoSem.ClaimMapViews
import Derived.JoinedTies
import Derived.KernelRfl
namespace Go.Proofs.Ytodnlecccgiogaa
/- THE CELL 'sum', in the pinned program and in every row, IS THE sha256 OF THE DUMP (.gsa) THAT YtodnlecccgiogaaProg.lean LOADS. Nothing in Lean hashes anything: it is a label: what it is worth is what the hold of that sum in a sandbox is worth. -/
noncomputable def Try.pinned : Pinned := { name := "ytodnlecccgiogaa", sum := "25c55c2f73390473c6860425fcf60f862c97de8d5af99157ce24049571dc5845", checked := Try.checked }
namespace Rows
def none {H : Type} : Left H := { results := [], args := [] }

/-- 'vendmeterlaw.DebtTotals': WHATEVER THE INPUT: true; the input reads as it did. -/
def debtTotalsSpec : ChangeSpec := { name := "debtTotals", fn := fun _ => fun
  | [d] => { results := [.lit (.bool true)], args := [d] }
  | _ => none }
def debtTotalsRow : OpenClaim := { program := "ytodnlecccgiogaa", sum := "25c55c2f73390473c6860425fcf60f862c97de8d5af99157ce24049571dc5845", func := "vendmeter/vendmeterlaw.DebtTotals", spec := "debtTotals", apart := false }
def DebtTotalsSaid : Prop := debtTotalsRow.holds Try.pinned (OpenSpec.ofChange debtTotalsSpec)

/-- ITS FALSE NEIGHBOUR: 'it returns false'. Refute it at one input. -/
def debtTotalsWrong : ChangeSpec := { name := "debtTotals", fn := fun _ => fun
  | [d] => { results := [.lit (.bool false)], args := [d] }
  | _ => none }
def DebtTotalsWrongFalsely : Prop := debtTotalsRow.holds Try.pinned (OpenSpec.ofChange debtTotalsWrong)

/-- 'vendmeterlaw.DebtRecovers': WHATEVER THE INPUT: true; the input reads as it did. -/
def debtRecoversSpec : ChangeSpec := { name := "debtRecovers", fn := fun _ => fun
  | [d1, d2, d3] => { results := [.lit (.bool true)], args := [d1, d2, d3] }
  | _ => none }
def debtRecoversRow : OpenClaim := { program := "ytodnlecccgiogaa", sum := "25c55c2f73390473c6860425fcf60f862c97de8d5af99157ce24049571dc5845", func := "vendmeter/vendmeterlaw.DebtRecovers", spec := "debtRecovers", apart := false }
def DebtRecoversSaid : Prop := debtRecoversRow.holds Try.pinned (OpenSpec.ofChange debtRecoversSpec)

/-- ITS FALSE NEIGHBOUR: 'it returns false'. Refute it at one input. -/
def debtRecoversWrong : ChangeSpec := { name := "debtRecovers", fn := fun _ => fun
  | [d1, d2, d3] => { results := [.lit (.bool false)], args := [d1, d2, d3] }
  | _ => none }
def DebtRecoversWrongFalsely : Prop := debtRecoversRow.holds Try.pinned (OpenSpec.ofChange debtRecoversWrong)

/-- 'vendmeterlaw.DebtAges': WHATEVER THE INPUT: true; the input reads as it did. -/
def debtAgesSpec : ChangeSpec := { name := "debtAges", fn := fun _ => fun
  | [d1, d2] => { results := [.lit (.bool true)], args := [d1, d2] }
  | _ => none }
def debtAgesRow : OpenClaim := { program := "ytodnlecccgiogaa", sum := "25c55c2f73390473c6860425fcf60f862c97de8d5af99157ce24049571dc5845", func := "vendmeter/vendmeterlaw.DebtAges", spec := "debtAges", apart := false }
def DebtAgesSaid : Prop := debtAgesRow.holds Try.pinned (OpenSpec.ofChange debtAgesSpec)

/-- ITS FALSE NEIGHBOUR: 'it returns false'. Refute it at one input. -/
def debtAgesWrong : ChangeSpec := { name := "debtAges", fn := fun _ => fun
  | [d1, d2] => { results := [.lit (.bool false)], args := [d1, d2] }
  | _ => none }
def DebtAgesWrongFalsely : Prop := debtAgesRow.holds Try.pinned (OpenSpec.ofChange debtAgesWrong)

/-- 'vendmeterlaw.DebtTimes': WHATEVER THE INPUT: true; the input reads as it did. -/
def debtTimesSpec : ChangeSpec := { name := "debtTimes", fn := fun _ => fun
  | [d1, d2, d3] => { results := [.lit (.bool true)], args := [d1, d2, d3] }
  | _ => none }
def debtTimesRow : OpenClaim := { program := "ytodnlecccgiogaa", sum := "25c55c2f73390473c6860425fcf60f862c97de8d5af99157ce24049571dc5845", func := "vendmeter/vendmeterlaw.DebtTimes", spec := "debtTimes", apart := false }
def DebtTimesSaid : Prop := debtTimesRow.holds Try.pinned (OpenSpec.ofChange debtTimesSpec)

/-- ITS FALSE NEIGHBOUR: 'it returns false'. Refute it at one input. -/
def debtTimesWrong : ChangeSpec := { name := "debtTimes", fn := fun _ => fun
  | [d1, d2, d3] => { results := [.lit (.bool false)], args := [d1, d2, d3] }
  | _ => none }
def DebtTimesWrongFalsely : Prop := debtTimesRow.holds Try.pinned (OpenSpec.ofChange debtTimesWrong)

/-- 'vendmeterkeep.DebtAdds': WHATEVER THE INPUT: true; the input reads as it did. -/
def debtAddsSpec : ChangeSpec := { name := "debtAdds", fn := fun _ => fun
  | [d1, d2, d3] => { results := [.lit (.bool true)], args := [d1, d2, d3] }
  | _ => none }
def debtAddsRow : OpenClaim := { program := "ytodnlecccgiogaa", sum := "25c55c2f73390473c6860425fcf60f862c97de8d5af99157ce24049571dc5845", func := "vendmeter/vendmeterkeep.DebtAdds", spec := "debtAdds", apart := false }
def DebtAddsSaid : Prop := debtAddsRow.holds Try.pinned (OpenSpec.ofChange debtAddsSpec)

/-- ITS FALSE NEIGHBOUR: 'it returns false'. Refute it at one input. -/
def debtAddsWrong : ChangeSpec := { name := "debtAdds", fn := fun _ => fun
  | [d1, d2, d3] => { results := [.lit (.bool false)], args := [d1, d2, d3] }
  | _ => none }
def DebtAddsWrongFalsely : Prop := debtAddsRow.holds Try.pinned (OpenSpec.ofChange debtAddsWrong)

/-- 'vendmeterkeep.DebtFirst': WHATEVER THE INPUT: true; the input reads as it did. -/
def debtFirstSpec : ChangeSpec := { name := "debtFirst", fn := fun _ => fun
  | [d1, d2, d3] => { results := [.lit (.bool true)], args := [d1, d2, d3] }
  | _ => none }
def debtFirstRow : OpenClaim := { program := "ytodnlecccgiogaa", sum := "25c55c2f73390473c6860425fcf60f862c97de8d5af99157ce24049571dc5845", func := "vendmeter/vendmeterkeep.DebtFirst", spec := "debtFirst", apart := false }
def DebtFirstSaid : Prop := debtFirstRow.holds Try.pinned (OpenSpec.ofChange debtFirstSpec)

/-- ITS FALSE NEIGHBOUR: 'it returns false'. Refute it at one input. -/
def debtFirstWrong : ChangeSpec := { name := "debtFirst", fn := fun _ => fun
  | [d1, d2, d3] => { results := [.lit (.bool false)], args := [d1, d2, d3] }
  | _ => none }
def DebtFirstWrongFalsely : Prop := debtFirstRow.holds Try.pinned (OpenSpec.ofChange debtFirstWrong)

/- THE SECOND FORM. 'bulk': how many values and letters a reading holds, each counted each time it is reached (what is shared counts as often as it is met; a slice's spare places count too). A statement '..UptoSaid' is the law's where the arguments, and the package variables that the reading takes, are together of bulk at most 1048576: NARROWER than '..Said'. Prove '..Said' where nothing that the law and all that it calls make is longer than what came in: it says more and counts as full. Else prove '..UptoSaid'. A law counts once. -/
mutual
def uptoBulk {H : Type} : DataW H → Nat
  | .lit (.string bytes) => bytes.length + 1
  | .lit _ => 1
  | .nil => 1
  | .ptr d => uptoBulk d + 1
  | .slice elems spare => uptoBulkAll elems + uptoBulkAll spare + 1
  | .agg parts => uptoBulkAll parts + 1
  | .iface _ d => uptoBulk d + 1
  | .map entries => uptoBulkEntries entries + 1
  | .held _ => 1
def uptoBulkAll {H : Type} : List (DataW H) → Nat
  | [] => 0
  | d :: r => uptoBulk d + uptoBulkAll r
def uptoBulkEntries {H : Type} : List (Lit × DataW H) → Nat
  | [] => 0
  | x :: r => uptoBulkEntry x + uptoBulkEntries r
def uptoBulkEntry {H : Type} : Lit × DataW H → Nat
  | (.string bytes, d) => bytes.length + uptoBulk d + 1
  | (_, d) => uptoBulk d + 1
 end
def uptoSmall : (H : Type) → List (DataW H) → Bool := fun _ ds => decide (uptoBulkAll ds ≤ 1048576)
def OpenSpec.upto (s : _root_.Go.ChangeSpec) : _root_.Go.OpenSpec := { _root_.Go.OpenSpec.ofChange s with cond := some uptoSmall }

/-- 'vendmeterlaw.DebtTotals', WHERE WHAT IT READS IS OF BULK AT MOST 1048576: true; the input reads as it did. -/
def debtTotalsUptoRow : OpenClaim := { program := "ytodnlecccgiogaa", sum := "25c55c2f73390473c6860425fcf60f862c97de8d5af99157ce24049571dc5845", func := "vendmeter/vendmeterlaw.DebtTotals", spec := "debtTotals", apart := false, narrowed := true }
def DebtTotalsUptoSaid : Prop := debtTotalsUptoRow.holds Try.pinned (OpenSpec.upto debtTotalsSpec)

/-- 'vendmeterlaw.DebtRecovers', WHERE WHAT IT READS IS OF BULK AT MOST 1048576: true; the input reads as it did. -/
def debtRecoversUptoRow : OpenClaim := { program := "ytodnlecccgiogaa", sum := "25c55c2f73390473c6860425fcf60f862c97de8d5af99157ce24049571dc5845", func := "vendmeter/vendmeterlaw.DebtRecovers", spec := "debtRecovers", apart := false, narrowed := true }
def DebtRecoversUptoSaid : Prop := debtRecoversUptoRow.holds Try.pinned (OpenSpec.upto debtRecoversSpec)

/-- 'vendmeterlaw.DebtAges', WHERE WHAT IT READS IS OF BULK AT MOST 1048576: true; the input reads as it did. -/
def debtAgesUptoRow : OpenClaim := { program := "ytodnlecccgiogaa", sum := "25c55c2f73390473c6860425fcf60f862c97de8d5af99157ce24049571dc5845", func := "vendmeter/vendmeterlaw.DebtAges", spec := "debtAges", apart := false, narrowed := true }
def DebtAgesUptoSaid : Prop := debtAgesUptoRow.holds Try.pinned (OpenSpec.upto debtAgesSpec)

/-- 'vendmeterlaw.DebtTimes', WHERE WHAT IT READS IS OF BULK AT MOST 1048576: true; the input reads as it did. -/
def debtTimesUptoRow : OpenClaim := { program := "ytodnlecccgiogaa", sum := "25c55c2f73390473c6860425fcf60f862c97de8d5af99157ce24049571dc5845", func := "vendmeter/vendmeterlaw.DebtTimes", spec := "debtTimes", apart := false, narrowed := true }
def DebtTimesUptoSaid : Prop := debtTimesUptoRow.holds Try.pinned (OpenSpec.upto debtTimesSpec)

/-- 'vendmeterkeep.DebtAdds', WHERE WHAT IT READS IS OF BULK AT MOST 1048576: true; the input reads as it did. -/
def debtAddsUptoRow : OpenClaim := { program := "ytodnlecccgiogaa", sum := "25c55c2f73390473c6860425fcf60f862c97de8d5af99157ce24049571dc5845", func := "vendmeter/vendmeterkeep.DebtAdds", spec := "debtAdds", apart := false, narrowed := true }
def DebtAddsUptoSaid : Prop := debtAddsUptoRow.holds Try.pinned (OpenSpec.upto debtAddsSpec)

/-- 'vendmeterkeep.DebtFirst', WHERE WHAT IT READS IS OF BULK AT MOST 1048576: true; the input reads as it did. -/
def debtFirstUptoRow : OpenClaim := { program := "ytodnlecccgiogaa", sum := "25c55c2f73390473c6860425fcf60f862c97de8d5af99157ce24049571dc5845", func := "vendmeter/vendmeterkeep.DebtFirst", spec := "debtFirst", apart := false, narrowed := true }
def DebtFirstUptoSaid : Prop := debtFirstUptoRow.holds Try.pinned (OpenSpec.upto debtFirstSpec)

end Rows
end Go.Proofs.Ytodnlecccgiogaa
