/-
  No cell of these rows narrows 'for every input' (looked for: loops, veiled, ifaces, maps, wideKeys, modest, calm, conditions, laid).
  DERIVED. THE GIVEN ROWS OF THIS SEAT. 6 by the template 'for every input the law returns true; each argument reads behind the call as it read before'; 0 by the template 'total and deterministic' (their statements: YthbalnldfegobaaTotals.lean).
  GIVEN WITH THE SEED: the statements are not yours to turn. If you find one false, say at which input.
  Laid BY PROGRAM, IN A SANDBOX (cutbox-rows.mjs): the forced cells as the released guide's own fill.sh prints them over the translation 194c7e440d1d54d6… (all of the seat's roots in one cut). By AI agents, Wed Nov 11 2026. No macro, syntax, notation, axiom, sorry.
-/
import Derived.Test.YthbalnldfegobaaChecked
import GoSem.Claim
import GoSem.ClaimJoined
import GoSem.ClaimMapViews
import Derived.JoinedTies
import Derived.KernelRfl
namespace Go.Proofs.Ythbalnldfegobaa
/- THE CELL 'sum', in the pinned program and in every row, IS THE sha256 OF THE DUMP (.gsa) THAT YthbalnldfegobaaProg.lean LOADS. Nothing in Lean hashes anything: it is a label: what it is worth is what the hold of that sum in a sandbox is worth. -/
noncomputable def Try.pinned : Pinned := { name := "ythbalnldfegobaa", sum := "194c7e440d1d54d6e4125d6d49e2e3bb35508c0c80e5b0da87782c097ecf3e59", checked := Try.checked }
namespace Rows
def none {H : Type} : Left H := { results := [], args := [] }

/-- 'vendmeterlaw.SlotFreshes': WHATEVER THE INPUT: true; the input reads as it did. -/
def slotFreshesSpec : ChangeSpec := { name := "slotFreshes", fn := fun _ => fun
  | [d] => { results := [.lit (.bool true)], args := [d] }
  | _ => none }
def slotFreshesRow : OpenClaim := { program := "ythbalnldfegobaa", sum := "194c7e440d1d54d6e4125d6d49e2e3bb35508c0c80e5b0da87782c097ecf3e59", func := "vendmeter/vendmeterlaw.SlotFreshes", spec := "slotFreshes", apart := false }
def SlotFreshesSaid : Prop := slotFreshesRow.holds Try.pinned (OpenSpec.ofChange slotFreshesSpec)

/-- ITS FALSE NEIGHBOUR: 'it returns false'. Refute it at one input. -/
def slotFreshesWrong : ChangeSpec := { name := "slotFreshes", fn := fun _ => fun
  | [d] => { results := [.lit (.bool false)], args := [d] }
  | _ => none }
def SlotFreshesWrongFalsely : Prop := slotFreshesRow.holds Try.pinned (OpenSpec.ofChange slotFreshesWrong)

/-- 'vendmeterlaw.SlotLoads': WHATEVER THE INPUT: true; the input reads as it did. -/
def slotLoadsSpec : ChangeSpec := { name := "slotLoads", fn := fun _ => fun
  | [d1, d2] => { results := [.lit (.bool true)], args := [d1, d2] }
  | _ => none }
def slotLoadsRow : OpenClaim := { program := "ythbalnldfegobaa", sum := "194c7e440d1d54d6e4125d6d49e2e3bb35508c0c80e5b0da87782c097ecf3e59", func := "vendmeter/vendmeterlaw.SlotLoads", spec := "slotLoads", apart := false }
def SlotLoadsSaid : Prop := slotLoadsRow.holds Try.pinned (OpenSpec.ofChange slotLoadsSpec)

/-- ITS FALSE NEIGHBOUR: 'it returns false'. Refute it at one input. -/
def slotLoadsWrong : ChangeSpec := { name := "slotLoads", fn := fun _ => fun
  | [d1, d2] => { results := [.lit (.bool false)], args := [d1, d2] }
  | _ => none }
def SlotLoadsWrongFalsely : Prop := slotLoadsRow.holds Try.pinned (OpenSpec.ofChange slotLoadsWrong)

/-- 'vendmeterlaw.SlotStores': WHATEVER THE INPUT: true; the input reads as it did. -/
def slotStoresSpec : ChangeSpec := { name := "slotStores", fn := fun _ => fun
  | [d1, d2] => { results := [.lit (.bool true)], args := [d1, d2] }
  | _ => none }
def slotStoresRow : OpenClaim := { program := "ythbalnldfegobaa", sum := "194c7e440d1d54d6e4125d6d49e2e3bb35508c0c80e5b0da87782c097ecf3e59", func := "vendmeter/vendmeterlaw.SlotStores", spec := "slotStores", apart := false }
def SlotStoresSaid : Prop := slotStoresRow.holds Try.pinned (OpenSpec.ofChange slotStoresSpec)

/-- ITS FALSE NEIGHBOUR: 'it returns false'. Refute it at one input. -/
def slotStoresWrong : ChangeSpec := { name := "slotStores", fn := fun _ => fun
  | [d1, d2] => { results := [.lit (.bool false)], args := [d1, d2] }
  | _ => none }
def SlotStoresWrongFalsely : Prop := slotStoresRow.holds Try.pinned (OpenSpec.ofChange slotStoresWrong)

/-- 'vendmeterkeep.SlotBack': WHATEVER THE INPUT: true; the input reads as it did. -/
def slotBackSpec : ChangeSpec := { name := "slotBack", fn := fun _ => fun
  | [d1, d2] => { results := [.lit (.bool true)], args := [d1, d2] }
  | _ => none }
def slotBackRow : OpenClaim := { program := "ythbalnldfegobaa", sum := "194c7e440d1d54d6e4125d6d49e2e3bb35508c0c80e5b0da87782c097ecf3e59", func := "vendmeter/vendmeterkeep.SlotBack", spec := "slotBack", unfollowed := true, recurses := true, apart := false }
def SlotBackSaid : Prop := slotBackRow.holds Try.pinned (OpenSpec.ofChange slotBackSpec)

/-- ITS FALSE NEIGHBOUR: 'it returns false'. Refute it at one input. -/
def slotBackWrong : ChangeSpec := { name := "slotBack", fn := fun _ => fun
  | [d1, d2] => { results := [.lit (.bool false)], args := [d1, d2] }
  | _ => none }
def SlotBackWrongFalsely : Prop := slotBackRow.holds Try.pinned (OpenSpec.ofChange slotBackWrong)

/-- 'vendmeterkeep.SlotCut': WHATEVER THE INPUT: true; the input reads as it did. -/
def slotCutSpec : ChangeSpec := { name := "slotCut", fn := fun _ => fun
  | [d1, d2, d3, d4] => { results := [.lit (.bool true)], args := [d1, d2, d3, d4] }
  | _ => none }
def slotCutRow : OpenClaim := { program := "ythbalnldfegobaa", sum := "194c7e440d1d54d6e4125d6d49e2e3bb35508c0c80e5b0da87782c097ecf3e59", func := "vendmeter/vendmeterkeep.SlotCut", spec := "slotCut", unfollowed := true, recurses := true, apart := false }
def SlotCutSaid : Prop := slotCutRow.holds Try.pinned (OpenSpec.ofChange slotCutSpec)

/-- ITS FALSE NEIGHBOUR: 'it returns false'. Refute it at one input. -/
def slotCutWrong : ChangeSpec := { name := "slotCut", fn := fun _ => fun
  | [d1, d2, d3, d4] => { results := [.lit (.bool false)], args := [d1, d2, d3, d4] }
  | _ => none }
def SlotCutWrongFalsely : Prop := slotCutRow.holds Try.pinned (OpenSpec.ofChange slotCutWrong)

/-- 'vendmeterkeep.SlotRetry': WHATEVER THE INPUT: true; the input reads as it did. -/
def slotRetrySpec : ChangeSpec := { name := "slotRetry", fn := fun _ => fun
  | [d1, d2, d3, d4] => { results := [.lit (.bool true)], args := [d1, d2, d3, d4] }
  | _ => none }
def slotRetryRow : OpenClaim := { program := "ythbalnldfegobaa", sum := "194c7e440d1d54d6e4125d6d49e2e3bb35508c0c80e5b0da87782c097ecf3e59", func := "vendmeter/vendmeterkeep.SlotRetry", spec := "slotRetry", unfollowed := true, recurses := true, apart := false }
def SlotRetrySaid : Prop := slotRetryRow.holds Try.pinned (OpenSpec.ofChange slotRetrySpec)

/-- ITS FALSE NEIGHBOUR: 'it returns false'. Refute it at one input. -/
def slotRetryWrong : ChangeSpec := { name := "slotRetry", fn := fun _ => fun
  | [d1, d2, d3, d4] => { results := [.lit (.bool false)], args := [d1, d2, d3, d4] }
  | _ => none }
def SlotRetryWrongFalsely : Prop := slotRetryRow.holds Try.pinned (OpenSpec.ofChange slotRetryWrong)

/- THE SECOND FORM. 'bulk': how many values and letters a reading holds, each counted each time it is reached (what is shared counts as often as it is met; a slice's spare places count too). A statement '..UptoSaid' is the law's where the arguments, and the package variables that the reading takes, are together of bulk at most 1048576: NARROWER than '..Said'. Prove '..Said' where nothing that the law and all that it calls make is longer than what came in: it says more and counts as full. Else prove '..UptoSaid'. A law counts once. -/
mutual
def uptoBulk {H : Type} : DataW H → Nat
  | .lit (.string bytes) => bytes.length + 1
  | .lit _ => 1
  | .nil => 1
  | .ptr d => uptoBulk d + 1
  | .slice elems spare => uptoBulkAll elems + uptoBulkAll spare + 1
  | .agg parts => uptoBulkAll parts + 1
  | .iface _ d => uptoBulk d + 1
  | .map entries => uptoBulkEntries entries + 1
  | .held _ => 1
def uptoBulkAll {H : Type} : List (DataW H) → Nat
  | [] => 0
  | d :: r => uptoBulk d + uptoBulkAll r
def uptoBulkEntries {H : Type} : List (Lit × DataW H) → Nat
  | [] => 0
  | x :: r => uptoBulkEntry x + uptoBulkEntries r
def uptoBulkEntry {H : Type} : Lit × DataW H → Nat
  | (.string bytes, d) => bytes.length + uptoBulk d + 1
  | (_, d) => uptoBulk d + 1
 end
def uptoSmall : (H : Type) → List (DataW H) → Bool := fun _ ds => decide (uptoBulkAll ds ≤ 1048576)
def OpenSpec.upto (s : _root_.Go.ChangeSpec) : _root_.Go.OpenSpec := { _root_.Go.OpenSpec.ofChange s with cond := some uptoSmall }

/-- 'vendmeterlaw.SlotFreshes', WHERE WHAT IT READS IS OF BULK AT MOST 1048576: true; the input reads as it did. -/
def slotFreshesUptoRow : OpenClaim := { program := "ythbalnldfegobaa", sum := "194c7e440d1d54d6e4125d6d49e2e3bb35508c0c80e5b0da87782c097ecf3e59", func := "vendmeter/vendmeterlaw.SlotFreshes", spec := "slotFreshes", apart := false, narrowed := true }
def SlotFreshesUptoSaid : Prop := slotFreshesUptoRow.holds Try.pinned (OpenSpec.upto slotFreshesSpec)

/-- 'vendmeterlaw.SlotLoads', WHERE WHAT IT READS IS OF BULK AT MOST 1048576: true; the input reads as it did. -/
def slotLoadsUptoRow : OpenClaim := { program := "ythbalnldfegobaa", sum := "194c7e440d1d54d6e4125d6d49e2e3bb35508c0c80e5b0da87782c097ecf3e59", func := "vendmeter/vendmeterlaw.SlotLoads", spec := "slotLoads", apart := false, narrowed := true }
def SlotLoadsUptoSaid : Prop := slotLoadsUptoRow.holds Try.pinned (OpenSpec.upto slotLoadsSpec)

/-- 'vendmeterlaw.SlotStores', WHERE WHAT IT READS IS OF BULK AT MOST 1048576: true; the input reads as it did. -/
def slotStoresUptoRow : OpenClaim := { program := "ythbalnldfegobaa", sum := "194c7e440d1d54d6e4125d6d49e2e3bb35508c0c80e5b0da87782c097ecf3e59", func := "vendmeter/vendmeterlaw.SlotStores", spec := "slotStores", apart := false, narrowed := true }
def SlotStoresUptoSaid : Prop := slotStoresUptoRow.holds Try.pinned (OpenSpec.upto slotStoresSpec)

/-- 'vendmeterkeep.SlotBack', WHERE WHAT IT READS IS OF BULK AT MOST 1048576: true; the input reads as it did. -/
def slotBackUptoRow : OpenClaim := { program := "ythbalnldfegobaa", sum := "194c7e440d1d54d6e4125d6d49e2e3bb35508c0c80e5b0da87782c097ecf3e59", func := "vendmeter/vendmeterkeep.SlotBack", spec := "slotBack", unfollowed := true, recurses := true, apart := false, narrowed := true }
def SlotBackUptoSaid : Prop := slotBackUptoRow.holds Try.pinned (OpenSpec.upto slotBackSpec)

/-- 'vendmeterkeep.SlotCut', WHERE WHAT IT READS IS OF BULK AT MOST 1048576: true; the input reads as it did. -/
def slotCutUptoRow : OpenClaim := { program := "ythbalnldfegobaa", sum := "194c7e440d1d54d6e4125d6d49e2e3bb35508c0c80e5b0da87782c097ecf3e59", func := "vendmeter/vendmeterkeep.SlotCut", spec := "slotCut", unfollowed := true, recurses := true, apart := false, narrowed := true }
def SlotCutUptoSaid : Prop := slotCutUptoRow.holds Try.pinned (OpenSpec.upto slotCutSpec)

/-- 'vendmeterkeep.SlotRetry', WHERE WHAT IT READS IS OF BULK AT MOST 1048576: true; the input reads as it did. -/
def slotRetryUptoRow : OpenClaim := { program := "ythbalnldfegobaa", sum := "194c7e440d1d54d6e4125d6d49e2e3bb35508c0c80e5b0da87782c097ecf3e59", func := "vendmeter/vendmeterkeep.SlotRetry", spec := "slotRetry", unfollowed := true, recurses := true, apart := false, narrowed := true }
def SlotRetryUptoSaid : Prop := slotRetryUptoRow.holds Try.pinned (OpenSpec.upto slotRetrySpec)

end Rows
end Go.Proofs.Ythbalnldfegobaa
