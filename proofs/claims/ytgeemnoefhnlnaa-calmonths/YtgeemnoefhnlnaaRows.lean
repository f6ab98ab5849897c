/-
  No cell of these rows narrows 'for every input' (looked for: loops, veiled, ifaces, maps, wideKeys, modest, calm, conditions, laid).
  DERIVED. THE GIVEN ROWS OF THIS SEAT. 6 by the template 'for every input the law returns true; each argument reads behind the call as it read before'; 0 by the template 'total and deterministic' (their statements: YtgeemnoefhnlnaaTotals.lean).
  GIVEN WITH THE SEED: the statements are not yours to turn. If you find one false, say at which input.
  Laid BY PROGRAM, IN A SANDBOX (cutbox-rows.mjs): the forced cells as the released guide's own fill.sh prints them over the translation 43fc2ccc5b354fdf… (all of the seat's roots in one cut). By AI agents, Wed Nov 11 2026. No macro, syntax, notation, axiom, sorry.
-/
import Derived.Test.YtgeemnoefhnlnaaChecked
import GoSem.Claim
import GoSem.ClaimJoined
import GoSem.ClaimMapViews
import Derived.JoinedTies
import Derived.KernelRfl
namespace Go.Proofs.Ytgeemnoefhnlnaa
/- THE CELL 'sum', in the pinned program and in every row, IS THE sha256 OF THE DUMP (.gsa) THAT YtgeemnoefhnlnaaProg.lean LOADS. Nothing in Lean hashes anything: it is a label: what it is worth is what the hold of that sum in a sandbox is worth. -/
noncomputable def Try.pinned : Pinned := { name := "ytgeemnoefhnlnaa", sum := "43fc2ccc5b354fdf2c879f926bd53a03d6c1e735e80dc57e5917ade28dc1a023", checked := Try.checked }
namespace Rows
def none {H : Type} : Left H := { results := [], args := [] }

/-- 'vendmeterlaw.CalDays': WHATEVER THE INPUT: true; the input reads as it did. -/
def calDaysSpec : ChangeSpec := { name := "calDays", fn := fun _ => fun
  | [d] => { results := [.lit (.bool true)], args := [d] }
  | _ => none }
def calDaysRow : OpenClaim := { program := "ytgeemnoefhnlnaa", sum := "43fc2ccc5b354fdf2c879f926bd53a03d6c1e735e80dc57e5917ade28dc1a023", func := "vendmeter/vendmeterlaw.CalDays", spec := "calDays", apart := false }
def CalDaysSaid : Prop := calDaysRow.holds Try.pinned (OpenSpec.ofChange calDaysSpec)

/-- ITS FALSE NEIGHBOUR: 'it returns false'. Refute it at one input. -/
def calDaysWrong : ChangeSpec := { name := "calDays", fn := fun _ => fun
  | [d] => { results := [.lit (.bool false)], args := [d] }
  | _ => none }
def CalDaysWrongFalsely : Prop := calDaysRow.holds Try.pinned (OpenSpec.ofChange calDaysWrong)

/-- 'vendmeterlaw.CalDates': WHATEVER THE INPUT: true; the input reads as it did. -/
def calDatesSpec : ChangeSpec := { name := "calDates", fn := fun _ => fun
  | [d] => { results := [.lit (.bool true)], args := [d] }
  | _ => none }
def calDatesRow : OpenClaim := { program := "ytgeemnoefhnlnaa", sum := "43fc2ccc5b354fdf2c879f926bd53a03d6c1e735e80dc57e5917ade28dc1a023", func := "vendmeter/vendmeterlaw.CalDates", spec := "calDates", unfollowed := true, recurses := true, apart := false }
def CalDatesSaid : Prop := calDatesRow.holds Try.pinned (OpenSpec.ofChange calDatesSpec)

/-- ITS FALSE NEIGHBOUR: 'it returns false'. Refute it at one input. -/
def calDatesWrong : ChangeSpec := { name := "calDates", fn := fun _ => fun
  | [d] => { results := [.lit (.bool false)], args := [d] }
  | _ => none }
def CalDatesWrongFalsely : Prop := calDatesRow.holds Try.pinned (OpenSpec.ofChange calDatesWrong)

/-- 'vendmeterlaw.CalMonths': WHATEVER THE INPUT: true; the input reads as it did. -/
def calMonthsSpec : ChangeSpec := { name := "calMonths", fn := fun _ => fun
  | [d] => { results := [.lit (.bool true)], args := [d] }
  | _ => none }
def calMonthsRow : OpenClaim := { program := "ytgeemnoefhnlnaa", sum := "43fc2ccc5b354fdf2c879f926bd53a03d6c1e735e80dc57e5917ade28dc1a023", func := "vendmeter/vendmeterlaw.CalMonths", spec := "calMonths", unfollowed := true, recurses := true, apart := false }
def CalMonthsSaid : Prop := calMonthsRow.holds Try.pinned (OpenSpec.ofChange calMonthsSpec)

/-- ITS FALSE NEIGHBOUR: 'it returns false'. Refute it at one input. -/
def calMonthsWrong : ChangeSpec := { name := "calMonths", fn := fun _ => fun
  | [d] => { results := [.lit (.bool false)], args := [d] }
  | _ => none }
def CalMonthsWrongFalsely : Prop := calMonthsRow.holds Try.pinned (OpenSpec.ofChange calMonthsWrong)

/-- 'vendmeterlaw.CalSpans': WHATEVER THE INPUT: true; the input reads as it did. -/
def calSpansSpec : ChangeSpec := { name := "calSpans", fn := fun _ => fun
  | [d] => { results := [.lit (.bool true)], args := [d] }
  | _ => none }
def calSpansRow : OpenClaim := { program := "ytgeemnoefhnlnaa", sum := "43fc2ccc5b354fdf2c879f926bd53a03d6c1e735e80dc57e5917ade28dc1a023", func := "vendmeter/vendmeterlaw.CalSpans", spec := "calSpans", apart := false }
def CalSpansSaid : Prop := calSpansRow.holds Try.pinned (OpenSpec.ofChange calSpansSpec)

/-- ITS FALSE NEIGHBOUR: 'it returns false'. Refute it at one input. -/
def calSpansWrong : ChangeSpec := { name := "calSpans", fn := fun _ => fun
  | [d] => { results := [.lit (.bool false)], args := [d] }
  | _ => none }
def CalSpansWrongFalsely : Prop := calSpansRow.holds Try.pinned (OpenSpec.ofChange calSpansWrong)

/-- 'vendmeterlaw.CalWeekdays': WHATEVER THE INPUT: true; the input reads as it did. -/
def calWeekdaysSpec : ChangeSpec := { name := "calWeekdays", fn := fun _ => fun
  | [d] => { results := [.lit (.bool true)], args := [d] }
  | _ => none }
def calWeekdaysRow : OpenClaim := { program := "ytgeemnoefhnlnaa", sum := "43fc2ccc5b354fdf2c879f926bd53a03d6c1e735e80dc57e5917ade28dc1a023", func := "vendmeter/vendmeterlaw.CalWeekdays", spec := "calWeekdays", apart := false }
def CalWeekdaysSaid : Prop := calWeekdaysRow.holds Try.pinned (OpenSpec.ofChange calWeekdaysSpec)

/-- ITS FALSE NEIGHBOUR: 'it returns false'. Refute it at one input. -/
def calWeekdaysWrong : ChangeSpec := { name := "calWeekdays", fn := fun _ => fun
  | [d] => { results := [.lit (.bool false)], args := [d] }
  | _ => none }
def CalWeekdaysWrongFalsely : Prop := calWeekdaysRow.holds Try.pinned (OpenSpec.ofChange calWeekdaysWrong)

/-- 'vendmeterkeep.CalBack': WHATEVER THE INPUT: true; the input reads as it did. -/
def calBackSpec : ChangeSpec := { name := "calBack", fn := fun _ => fun
  | [d] => { results := [.lit (.bool true)], args := [d] }
  | _ => none }
def calBackRow : OpenClaim := { program := "ytgeemnoefhnlnaa", sum := "43fc2ccc5b354fdf2c879f926bd53a03d6c1e735e80dc57e5917ade28dc1a023", func := "vendmeter/vendmeterkeep.CalBack", spec := "calBack", unfollowed := true, recurses := true, apart := false }
def CalBackSaid : Prop := calBackRow.holds Try.pinned (OpenSpec.ofChange calBackSpec)

/-- ITS FALSE NEIGHBOUR: 'it returns false'. Refute it at one input. -/
def calBackWrong : ChangeSpec := { name := "calBack", fn := fun _ => fun
  | [d] => { results := [.lit (.bool false)], args := [d] }
  | _ => none }
def CalBackWrongFalsely : Prop := calBackRow.holds Try.pinned (OpenSpec.ofChange calBackWrong)

/- THE SECOND FORM. 'bulk': how many values and letters a reading holds, each counted each time it is reached (what is shared counts as often as it is met; a slice's spare places count too). A statement '..UptoSaid' is the law's where the arguments, and the package variables that the reading takes, are together of bulk at most 1048576: NARROWER than '..Said'. Prove '..Said' where nothing that the law and all that it calls make is longer than what came in: it says more and counts as full. Else prove '..UptoSaid'. A law counts once. -/
mutual
def uptoBulk {H : Type} : DataW H → Nat
  | .lit (.string bytes) => bytes.length + 1
  | .lit _ => 1
  | .nil => 1
  | .ptr d => uptoBulk d + 1
  | .slice elems spare => uptoBulkAll elems + uptoBulkAll spare + 1
  | .agg parts => uptoBulkAll parts + 1
  | .iface _ d => uptoBulk d + 1
  | .map entries => uptoBulkEntries entries + 1
  | .held _ => 1
def uptoBulkAll {H : Type} : List (DataW H) → Nat
  | [] => 0
  | d :: r => uptoBulk d + uptoBulkAll r
def uptoBulkEntries {H : Type} : List (Lit × DataW H) → Nat
  | [] => 0
  | x :: r => uptoBulkEntry x + uptoBulkEntries r
def uptoBulkEntry {H : Type} : Lit × DataW H → Nat
  | (.string bytes, d) => bytes.length + uptoBulk d + 1
  | (_, d) => uptoBulk d + 1
 end
def uptoSmall : (H : Type) → List (DataW H) → Bool := fun _ ds => decide (uptoBulkAll ds ≤ 1048576)
def OpenSpec.upto (s : _root_.Go.ChangeSpec) : _root_.Go.OpenSpec := { _root_.Go.OpenSpec.ofChange s with cond := some uptoSmall }

/-- 'vendmeterlaw.CalDays', WHERE WHAT IT READS IS OF BULK AT MOST 1048576: true; the input reads as it did. -/
def calDaysUptoRow : OpenClaim := { program := "ytgeemnoefhnlnaa", sum := "43fc2ccc5b354fdf2c879f926bd53a03d6c1e735e80dc57e5917ade28dc1a023", func := "vendmeter/vendmeterlaw.CalDays", spec := "calDays", apart := false, narrowed := true }
def CalDaysUptoSaid : Prop := calDaysUptoRow.holds Try.pinned (OpenSpec.upto calDaysSpec)

/-- 'vendmeterlaw.CalDates', WHERE WHAT IT READS IS OF BULK AT MOST 1048576: true; the input reads as it did. -/
def calDatesUptoRow : OpenClaim := { program := "ytgeemnoefhnlnaa", sum := "43fc2ccc5b354fdf2c879f926bd53a03d6c1e735e80dc57e5917ade28dc1a023", func := "vendmeter/vendmeterlaw.CalDates", spec := "calDates", unfollowed := true, recurses := true, apart := false, narrowed := true }
def CalDatesUptoSaid : Prop := calDatesUptoRow.holds Try.pinned (OpenSpec.upto calDatesSpec)

/-- 'vendmeterlaw.CalMonths', WHERE WHAT IT READS IS OF BULK AT MOST 1048576: true; the input reads as it did. -/
def calMonthsUptoRow : OpenClaim := { program := "ytgeemnoefhnlnaa", sum := "43fc2ccc5b354fdf2c879f926bd53a03d6c1e735e80dc57e5917ade28dc1a023", func := "vendmeter/vendmeterlaw.CalMonths", spec := "calMonths", unfollowed := true, recurses := true, apart := false, narrowed := true }
def CalMonthsUptoSaid : Prop := calMonthsUptoRow.holds Try.pinned (OpenSpec.upto calMonthsSpec)

/-- 'vendmeterlaw.CalSpans', WHERE WHAT IT READS IS OF BULK AT MOST 1048576: true; the input reads as it did. -/
def calSpansUptoRow : OpenClaim := { program := "ytgeemnoefhnlnaa", sum := "43fc2ccc5b354fdf2c879f926bd53a03d6c1e735e80dc57e5917ade28dc1a023", func := "vendmeter/vendmeterlaw.CalSpans", spec := "calSpans", apart := false, narrowed := true }
def CalSpansUptoSaid : Prop := calSpansUptoRow.holds Try.pinned (OpenSpec.upto calSpansSpec)

/-- 'vendmeterlaw.CalWeekdays', WHERE WHAT IT READS IS OF BULK AT MOST 1048576: true; the input reads as it did. -/
def calWeekdaysUptoRow : OpenClaim := { program := "ytgeemnoefhnlnaa", sum := "43fc2ccc5b354fdf2c879f926bd53a03d6c1e735e80dc57e5917ade28dc1a023", func := "vendmeter/vendmeterlaw.CalWeekdays", spec := "calWeekdays", apart := false, narrowed := true }
def CalWeekdaysUptoSaid : Prop := calWeekdaysUptoRow.holds Try.pinned (OpenSpec.upto calWeekdaysSpec)

/-- 'vendmeterkeep.CalBack', WHERE WHAT IT READS IS OF BULK AT MOST 1048576: true; the input reads as it did. -/
def calBackUptoRow : OpenClaim := { program := "ytgeemnoefhnlnaa", sum := "43fc2ccc5b354fdf2c879f926bd53a03d6c1e735e80dc57e5917ade28dc1a023", func := "vendmeter/vendmeterkeep.CalBack", spec := "calBack", unfollowed := true, recurses := true, apart := false, narrowed := true }
def CalBackUptoSaid : Prop := calBackUptoRow.holds Try.pinned (OpenSpec.upto calBackSpec)

end Rows
end Go.Proofs.Ytgeemnoefhnlnaa
