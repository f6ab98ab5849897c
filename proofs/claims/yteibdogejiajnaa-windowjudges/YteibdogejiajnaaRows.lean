/-
  No cell of these rows narrows 'for every input' (looked for: loops, veiled, ifaces, maps, wideKeys, modest, calm, conditions, laid).
  DERIVED. THE GIVEN ROWS OF THIS SEAT. 6 by the template 'for every input the law returns true; each argument reads behind the call as it read before'; 0 by the template 'total and deterministic' (their statements: YteibdogejiajnaaTotals.lean).
  GIVEN WITH THE SEED: the statements are not yours to turn. If you find one false, say at which input.
  Laid BY PROGRAM, IN A SANDBOX (cutbox-rows.mjs): the forced cells as the released guide's own fill.sh prints them over the translation 0e213545e91db646… (all of the seat's roots in one cut). By AI agents, Wed Nov 11 2026. No macro, syntax, notation, axiom, sorry.
-/
import Derived.Test.YteibdogejiajnaaChecked
import GoSem.Claim
import GoSem.ClaimJoined
import GoSem.ClaimMapViews
import Derived.JoinedTies
import Derived.KernelRfl
namespace Go.Proofs.Yteibdogejiajnaa
/- THE CELL 'sum', in the pinned program and in every row, IS THE sha256 OF THE DUMP (.gsa) THAT YteibdogejiajnaaProg.lean LOADS. Nothing in Lean hashes anything: it is a label: what it is worth is what the hold of that sum in a sandbox is worth. -/
noncomputable def Try.pinned : Pinned := { name := "yteibdogejiajnaa", sum := "0e213545e91db646c4f33d2996e94a9f67e47f4f0a4ae06a2aba6bb558b57a2f", checked := Try.checked }
namespace Rows
def none {H : Type} : Left H := { results := [], args := [] }

/-- 'vendmeterlaw.WindowJudges': WHATEVER THE INPUT: true; the input reads as it did. -/
def windowJudgesSpec : ChangeSpec := { name := "windowJudges", fn := fun _ => fun
  | [d1, d2] => { results := [.lit (.bool true)], args := [d1, d2] }
  | _ => none }
def windowJudgesRow : OpenClaim := { program := "yteibdogejiajnaa", sum := "0e213545e91db646c4f33d2996e94a9f67e47f4f0a4ae06a2aba6bb558b57a2f", func := "vendmeter/vendmeterlaw.WindowJudges", spec := "windowJudges", apart := false }
def WindowJudgesSaid : Prop := windowJudgesRow.holds Try.pinned (OpenSpec.ofChange windowJudgesSpec)

/-- ITS FALSE NEIGHBOUR: 'it returns false'. Refute it at one input. -/
def windowJudgesWrong : ChangeSpec := { name := "windowJudges", fn := fun _ => fun
  | [d1, d2] => { results := [.lit (.bool false)], args := [d1, d2] }
  | _ => none }
def WindowJudgesWrongFalsely : Prop := windowJudgesRow.holds Try.pinned (OpenSpec.ofChange windowJudgesWrong)

/-- 'vendmeterlaw.WindowTakes': WHATEVER THE INPUT: true; the input reads as it did. -/
def windowTakesSpec : ChangeSpec := { name := "windowTakes", fn := fun _ => fun
  | [d1, d2] => { results := [.lit (.bool true)], args := [d1, d2] }
  | _ => none }
def windowTakesRow : OpenClaim := { program := "yteibdogejiajnaa", sum := "0e213545e91db646c4f33d2996e94a9f67e47f4f0a4ae06a2aba6bb558b57a2f", func := "vendmeter/vendmeterlaw.WindowTakes", spec := "windowTakes", apart := false }
def WindowTakesSaid : Prop := windowTakesRow.holds Try.pinned (OpenSpec.ofChange windowTakesSpec)

/-- ITS FALSE NEIGHBOUR: 'it returns false'. Refute it at one input. -/
def windowTakesWrong : ChangeSpec := { name := "windowTakes", fn := fun _ => fun
  | [d1, d2] => { results := [.lit (.bool false)], args := [d1, d2] }
  | _ => none }
def WindowTakesWrongFalsely : Prop := windowTakesRow.holds Try.pinned (OpenSpec.ofChange windowTakesWrong)

/-- 'vendmeterlaw.WindowUses': WHATEVER THE INPUT: true; the input reads as it did. -/
def windowUsesSpec : ChangeSpec := { name := "windowUses", fn := fun _ => fun
  | [d] => { results := [.lit (.bool true)], args := [d] }
  | _ => none }
def windowUsesRow : OpenClaim := { program := "yteibdogejiajnaa", sum := "0e213545e91db646c4f33d2996e94a9f67e47f4f0a4ae06a2aba6bb558b57a2f", func := "vendmeter/vendmeterlaw.WindowUses", spec := "windowUses", apart := false }
def WindowUsesSaid : Prop := windowUsesRow.holds Try.pinned (OpenSpec.ofChange windowUsesSpec)

/-- ITS FALSE NEIGHBOUR: 'it returns false'. Refute it at one input. -/
def windowUsesWrong : ChangeSpec := { name := "windowUses", fn := fun _ => fun
  | [d] => { results := [.lit (.bool false)], args := [d] }
  | _ => none }
def WindowUsesWrongFalsely : Prop := windowUsesRow.holds Try.pinned (OpenSpec.ofChange windowUsesWrong)

/-- 'vendmeterkeep.WindowOnce': WHATEVER THE INPUT: true; the input reads as it did. -/
def windowOnceSpec : ChangeSpec := { name := "windowOnce", fn := fun _ => fun
  | [d] => { results := [.lit (.bool true)], args := [d] }
  | _ => none }
def windowOnceRow : OpenClaim := { program := "yteibdogejiajnaa", sum := "0e213545e91db646c4f33d2996e94a9f67e47f4f0a4ae06a2aba6bb558b57a2f", func := "vendmeter/vendmeterkeep.WindowOnce", spec := "windowOnce", apart := false }
def WindowOnceSaid : Prop := windowOnceRow.holds Try.pinned (OpenSpec.ofChange windowOnceSpec)

/-- ITS FALSE NEIGHBOUR: 'it returns false'. Refute it at one input. -/
def windowOnceWrong : ChangeSpec := { name := "windowOnce", fn := fun _ => fun
  | [d] => { results := [.lit (.bool false)], args := [d] }
  | _ => none }
def WindowOnceWrongFalsely : Prop := windowOnceRow.holds Try.pinned (OpenSpec.ofChange windowOnceWrong)

/-- 'vendmeterkeep.WindowRises': WHATEVER THE INPUT: true; the input reads as it did. -/
def windowRisesSpec : ChangeSpec := { name := "windowRises", fn := fun _ => fun
  | [d] => { results := [.lit (.bool true)], args := [d] }
  | _ => none }
def windowRisesRow : OpenClaim := { program := "yteibdogejiajnaa", sum := "0e213545e91db646c4f33d2996e94a9f67e47f4f0a4ae06a2aba6bb558b57a2f", func := "vendmeter/vendmeterkeep.WindowRises", spec := "windowRises", apart := false }
def WindowRisesSaid : Prop := windowRisesRow.holds Try.pinned (OpenSpec.ofChange windowRisesSpec)

/-- ITS FALSE NEIGHBOUR: 'it returns false'. Refute it at one input. -/
def windowRisesWrong : ChangeSpec := { name := "windowRises", fn := fun _ => fun
  | [d] => { results := [.lit (.bool false)], args := [d] }
  | _ => none }
def WindowRisesWrongFalsely : Prop := windowRisesRow.holds Try.pinned (OpenSpec.ofChange windowRisesWrong)

/-- 'vendmeterkeep.WindowKnows': WHATEVER THE INPUT: true; the input reads as it did. -/
def windowKnowsSpec : ChangeSpec := { name := "windowKnows", fn := fun _ => fun
  | [d] => { results := [.lit (.bool true)], args := [d] }
  | _ => none }
def windowKnowsRow : OpenClaim := { program := "yteibdogejiajnaa", sum := "0e213545e91db646c4f33d2996e94a9f67e47f4f0a4ae06a2aba6bb558b57a2f", func := "vendmeter/vendmeterkeep.WindowKnows", spec := "windowKnows", apart := false }
def WindowKnowsSaid : Prop := windowKnowsRow.holds Try.pinned (OpenSpec.ofChange windowKnowsSpec)

/-- ITS FALSE NEIGHBOUR: 'it returns false'. Refute it at one input. -/
def windowKnowsWrong : ChangeSpec := { name := "windowKnows", fn := fun _ => fun
  | [d] => { results := [.lit (.bool false)], args := [d] }
  | _ => none }
def WindowKnowsWrongFalsely : Prop := windowKnowsRow.holds Try.pinned (OpenSpec.ofChange windowKnowsWrong)

/- THE SECOND FORM. 'bulk': how many values and letters a reading holds, each counted each time it is reached (what is shared counts as often as it is met; a slice's spare places count too). A statement '..UptoSaid' is the law's where the arguments, and the package variables that the reading takes, are together of bulk at most 1048576: NARROWER than '..Said'. Prove '..Said' where nothing that the law and all that it calls make is longer than what came in: it says more and counts as full. Else prove '..UptoSaid'. A law counts once. -/
mutual
def uptoBulk {H : Type} : DataW H → Nat
  | .lit (.string bytes) => bytes.length + 1
  | .lit _ => 1
  | .nil => 1
  | .ptr d => uptoBulk d + 1
  | .slice elems spare => uptoBulkAll elems + uptoBulkAll spare + 1
  | .agg parts => uptoBulkAll parts + 1
  | .iface _ d => uptoBulk d + 1
  | .map entries => uptoBulkEntries entries + 1
  | .held _ => 1
def uptoBulkAll {H : Type} : List (DataW H) → Nat
  | [] => 0
  | d :: r => uptoBulk d + uptoBulkAll r
def uptoBulkEntries {H : Type} : List (Lit × DataW H) → Nat
  | [] => 0
  | x :: r => uptoBulkEntry x + uptoBulkEntries r
def uptoBulkEntry {H : Type} : Lit × DataW H → Nat
  | (.string bytes, d) => bytes.length + uptoBulk d + 1
  | (_, d) => uptoBulk d + 1
 end
def uptoSmall : (H : Type) → List (DataW H) → Bool := fun _ ds => decide (uptoBulkAll ds ≤ 1048576)
def OpenSpec.upto (s : _root_.Go.ChangeSpec) : _root_.Go.OpenSpec := { _root_.Go.OpenSpec.ofChange s with cond := some uptoSmall }

/-- 'vendmeterlaw.WindowJudges', WHERE WHAT IT READS IS OF BULK AT MOST 1048576: true; the input reads as it did. -/
def windowJudgesUptoRow : OpenClaim := { program := "yteibdogejiajnaa", sum := "0e213545e91db646c4f33d2996e94a9f67e47f4f0a4ae06a2aba6bb558b57a2f", func := "vendmeter/vendmeterlaw.WindowJudges", spec := "windowJudges", apart := false, narrowed := true }
def WindowJudgesUptoSaid : Prop := windowJudgesUptoRow.holds Try.pinned (OpenSpec.upto windowJudgesSpec)

/-- 'vendmeterlaw.WindowTakes', WHERE WHAT IT READS IS OF BULK AT MOST 1048576: true; the input reads as it did. -/
def windowTakesUptoRow : OpenClaim := { program := "yteibdogejiajnaa", sum := "0e213545e91db646c4f33d2996e94a9f67e47f4f0a4ae06a2aba6bb558b57a2f", func := "vendmeter/vendmeterlaw.WindowTakes", spec := "windowTakes", apart := false, narrowed := true }
def WindowTakesUptoSaid : Prop := windowTakesUptoRow.holds Try.pinned (OpenSpec.upto windowTakesSpec)

/-- 'vendmeterlaw.WindowUses', WHERE WHAT IT READS IS OF BULK AT MOST 1048576: true; the input reads as it did. -/
def windowUsesUptoRow : OpenClaim := { program := "yteibdogejiajnaa", sum := "0e213545e91db646c4f33d2996e94a9f67e47f4f0a4ae06a2aba6bb558b57a2f", func := "vendmeter/vendmeterlaw.WindowUses", spec := "windowUses", apart := false, narrowed := true }
def WindowUsesUptoSaid : Prop := windowUsesUptoRow.holds Try.pinned (OpenSpec.upto windowUsesSpec)

/-- 'vendmeterkeep.WindowOnce', WHERE WHAT IT READS IS OF BULK AT MOST 1048576: true; the input reads as it did. -/
def windowOnceUptoRow : OpenClaim := { program := "yteibdogejiajnaa", sum := "0e213545e91db646c4f33d2996e94a9f67e47f4f0a4ae06a2aba6bb558b57a2f", func := "vendmeter/vendmeterkeep.WindowOnce", spec := "windowOnce", apart := false, narrowed := true }
def WindowOnceUptoSaid : Prop := windowOnceUptoRow.holds Try.pinned (OpenSpec.upto windowOnceSpec)

/-- 'vendmeterkeep.WindowRises', WHERE WHAT IT READS IS OF BULK AT MOST 1048576: true; the input reads as it did. -/
def windowRisesUptoRow : OpenClaim := { program := "yteibdogejiajnaa", sum := "0e213545e91db646c4f33d2996e94a9f67e47f4f0a4ae06a2aba6bb558b57a2f", func := "vendmeter/vendmeterkeep.WindowRises", spec := "windowRises", apart := false, narrowed := true }
def WindowRisesUptoSaid : Prop := windowRisesUptoRow.holds Try.pinned (OpenSpec.upto windowRisesSpec)

/-- 'vendmeterkeep.WindowKnows', WHERE WHAT IT READS IS OF BULK AT MOST 1048576: true; the input reads as it did. -/
def windowKnowsUptoRow : OpenClaim := { program := "yteibdogejiajnaa", sum := "0e213545e91db646c4f33d2996e94a9f67e47f4f0a4ae06a2aba6bb558b57a2f", func := "vendmeter/vendmeterkeep.WindowKnows", spec := "windowKnows", apart := false, narrowed := true }
def WindowKnowsUptoSaid : Prop := windowKnowsUptoRow.holds Try.pinned (OpenSpec.upto windowKnowsSpec)

end Rows
end Go.Proofs.Yteibdogejiajnaa
