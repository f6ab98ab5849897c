/-
  NARROWER THAN 'FOR EVERY INPUT', by the rows' own cells (each row's printed sentence says how): CheckSlip: laid · CheckSwap: laid · CheckOne: laid.
  DERIVED. THE GIVEN ROWS OF THIS SEAT. 3 by the template 'for every input the law returns true; each argument reads behind the call as it read before'; 0 by the template 'total and deterministic' (their statements: YtopbiamlmdpphacDoorTotals.lean).
  GIVEN WITH THE SEED: the statements are not yours to turn. If you find one false, say at which input.
  Laid BY PROGRAM, IN A SANDBOX (cutbox-rows.mjs): the forced cells as the released guide's own fill.sh prints them over the translation 233733d210a269d7… (all of the seat's roots in one cut). By AI agents, Wed Nov 11 2026. No macro, syntax, notation, axiom, sorry.
-/
import Derived.Test.YtopbiamlmdpphacDoorChecked
import GoSem.Claim
import GoSem.ClaimJoined
import GoSem.ClaimMapViews
import Derived.JoinedTies
import Derived.KernelRfl
namespace Go.Proofs.YtopbiamlmdpphacDoor
/- THE CELL 'sum', in the pinned program and in every row, IS THE sha256 OF THE DUMP (.gsa) THAT YtopbiamlmdpphacDoorProg.lean LOADS. Nothing in Lean hashes anything: it is a label: what it is worth is what the hold of that sum in a sandbox is worth. -/
noncomputable def Tryd.pinned : Pinned := { name := "ytopbiamlmdpphacdoor", sum := "233733d210a269d7beab17384a46e5537fff33adfefbbbd8177b69de63c90009", checked := Tryd.checked }
namespace Rows
def none {H : Type} : Left H := { results := [], args := [] }

/- WHAT THE LISTED PACKAGE-LEVEL VARIABLES READ AS WHEN THE CALL BEGINS. Each datum BY PROGRAM (the guide's laid-datum.mjs) off the statement by which the dump's own 'gosem.cut.vars' lays the variable. In a bare row this is a premise. The card (YtopbiamlmdpphacDoorCards.lean) ties it to the program's text. -/
def laid_vendmeter_check_moves {H : Type} : DataW H := .agg [.lit (.int .i64 1), .lit (.int .i64 5), .lit (.int .i64 7), .lit (.int .i64 6), .lit (.int .i64 2), .lit (.int .i64 8), .lit (.int .i64 3), .lit (.int .i64 0), .lit (.int .i64 9), .lit (.int .i64 4)]

/-- 'vendmeterkeep.CheckSlip': WHATEVER THE INPUT: true; the input reads as it did. -/
def checkSlipSpec : ChangeSpec := { name := "checkSlip", fn := fun _ => fun
  | [d1, d2, d3] => { results := [.lit (.bool true)], args := [d1, d2, d3] }
  | _ => none }
def checkSlipRow : OpenClaim := { program := "ytopbiamlmdpphacdoor", sum := "233733d210a269d7beab17384a46e5537fff33adfefbbbd8177b69de63c90009", func := "vendmeter/vendmeterkeep.CheckSlip", spec := "checkSlip", unfollowed := true, recurses := true, named := ["vendmeter/check.moves"], apart := false, laid := [("vendmeter/check.moves", laid_vendmeter_check_moves)] }
def CheckSlipSaid : Prop := checkSlipRow.holds Tryd.pinned (OpenSpec.ofChange checkSlipSpec)

/-- ITS FALSE NEIGHBOUR: 'it returns false'. Refute it at one input. -/
def checkSlipWrong : ChangeSpec := { name := "checkSlip", fn := fun _ => fun
  | [d1, d2, d3] => { results := [.lit (.bool false)], args := [d1, d2, d3] }
  | _ => none }
def CheckSlipWrongFalsely : Prop := checkSlipRow.holds Tryd.pinned (OpenSpec.ofChange checkSlipWrong)

/-- 'vendmeterkeep.CheckSwap': WHATEVER THE INPUT: true; the input reads as it did. -/
def checkSwapSpec : ChangeSpec := { name := "checkSwap", fn := fun _ => fun
  | [d1, d2] => { results := [.lit (.bool true)], args := [d1, d2] }
  | _ => none }
def checkSwapRow : OpenClaim := { program := "ytopbiamlmdpphacdoor", sum := "233733d210a269d7beab17384a46e5537fff33adfefbbbd8177b69de63c90009", func := "vendmeter/vendmeterkeep.CheckSwap", spec := "checkSwap", unfollowed := true, recurses := true, named := ["vendmeter/check.moves"], apart := false, laid := [("vendmeter/check.moves", laid_vendmeter_check_moves)] }
def CheckSwapSaid : Prop := checkSwapRow.holds Tryd.pinned (OpenSpec.ofChange checkSwapSpec)

/-- ITS FALSE NEIGHBOUR: 'it returns false'. Refute it at one input. -/
def checkSwapWrong : ChangeSpec := { name := "checkSwap", fn := fun _ => fun
  | [d1, d2] => { results := [.lit (.bool false)], args := [d1, d2] }
  | _ => none }
def CheckSwapWrongFalsely : Prop := checkSwapRow.holds Tryd.pinned (OpenSpec.ofChange checkSwapWrong)

/-- 'vendmeterkeep.CheckOne': WHATEVER THE INPUT: true; the input reads as it did. -/
def checkOneSpec : ChangeSpec := { name := "checkOne", fn := fun _ => fun
  | [d] => { results := [.lit (.bool true)], args := [d] }
  | _ => none }
def checkOneRow : OpenClaim := { program := "ytopbiamlmdpphacdoor", sum := "233733d210a269d7beab17384a46e5537fff33adfefbbbd8177b69de63c90009", func := "vendmeter/vendmeterkeep.CheckOne", spec := "checkOne", unfollowed := true, recurses := true, named := ["vendmeter/check.moves"], apart := false, laid := [("vendmeter/check.moves", laid_vendmeter_check_moves)] }
def CheckOneSaid : Prop := checkOneRow.holds Tryd.pinned (OpenSpec.ofChange checkOneSpec)

/-- ITS FALSE NEIGHBOUR: 'it returns false'. Refute it at one input. -/
def checkOneWrong : ChangeSpec := { name := "checkOne", fn := fun _ => fun
  | [d] => { results := [.lit (.bool false)], args := [d] }
  | _ => none }
def CheckOneWrongFalsely : Prop := checkOneRow.holds Tryd.pinned (OpenSpec.ofChange checkOneWrong)

/- THE SECOND FORM. 'bulk': how many values and letters a reading holds, each counted each time it is reached (what is shared counts as often as it is met; a slice's spare places count too). A statement '..UptoSaid' is the law's where the arguments, and the package variables that the reading takes, are together of bulk at most 1048576: NARROWER than '..Said'. Prove '..Said' where nothing that the law and all that it calls make is longer than what came in: it says more and counts as full. Else prove '..UptoSaid'. A law counts once. -/
mutual
def uptoBulk {H : Type} : DataW H → Nat
  | .lit (.string bytes) => bytes.length + 1
  | .lit _ => 1
  | .nil => 1
  | .ptr d => uptoBulk d + 1
  | .slice elems spare => uptoBulkAll elems + uptoBulkAll spare + 1
  | .agg parts => uptoBulkAll parts + 1
  | .iface _ d => uptoBulk d + 1
  | .map entries => uptoBulkEntries entries + 1
  | .held _ => 1
def uptoBulkAll {H : Type} : List (DataW H) → Nat
  | [] => 0
  | d :: r => uptoBulk d + uptoBulkAll r
def uptoBulkEntries {H : Type} : List (Lit × DataW H) → Nat
  | [] => 0
  | x :: r => uptoBulkEntry x + uptoBulkEntries r
def uptoBulkEntry {H : Type} : Lit × DataW H → Nat
  | (.string bytes, d) => bytes.length + uptoBulk d + 1
  | (_, d) => uptoBulk d + 1
 end
def uptoSmall : (H : Type) → List (DataW H) → Bool := fun _ ds => decide (uptoBulkAll ds ≤ 1048576)
def OpenSpec.upto (s : _root_.Go.ChangeSpec) : _root_.Go.OpenSpec := { _root_.Go.OpenSpec.ofChange s with cond := some uptoSmall }

/-- 'vendmeterkeep.CheckSlip', WHERE WHAT IT READS IS OF BULK AT MOST 1048576: true; the input reads as it did. -/
def checkSlipUptoRow : OpenClaim := { program := "ytopbiamlmdpphacdoor", sum := "233733d210a269d7beab17384a46e5537fff33adfefbbbd8177b69de63c90009", func := "vendmeter/vendmeterkeep.CheckSlip", spec := "checkSlip", unfollowed := true, recurses := true, named := ["vendmeter/check.moves"], apart := false, laid := [("vendmeter/check.moves", laid_vendmeter_check_moves)], narrowed := true }
def CheckSlipUptoSaid : Prop := checkSlipUptoRow.holds Tryd.pinned (OpenSpec.upto checkSlipSpec)

/-- 'vendmeterkeep.CheckSwap', WHERE WHAT IT READS IS OF BULK AT MOST 1048576: true; the input reads as it did. -/
def checkSwapUptoRow : OpenClaim := { program := "ytopbiamlmdpphacdoor", sum := "233733d210a269d7beab17384a46e5537fff33adfefbbbd8177b69de63c90009", func := "vendmeter/vendmeterkeep.CheckSwap", spec := "checkSwap", unfollowed := true, recurses := true, named := ["vendmeter/check.moves"], apart := false, laid := [("vendmeter/check.moves", laid_vendmeter_check_moves)], narrowed := true }
def CheckSwapUptoSaid : Prop := checkSwapUptoRow.holds Tryd.pinned (OpenSpec.upto checkSwapSpec)

/-- 'vendmeterkeep.CheckOne', WHERE WHAT IT READS IS OF BULK AT MOST 1048576: true; the input reads as it did. -/
def checkOneUptoRow : OpenClaim := { program := "ytopbiamlmdpphacdoor", sum := "233733d210a269d7beab17384a46e5537fff33adfefbbbd8177b69de63c90009", func := "vendmeter/vendmeterkeep.CheckOne", spec := "checkOne", unfollowed := true, recurses := true, named := ["vendmeter/check.moves"], apart := false, laid := [("vendmeter/check.moves", laid_vendmeter_check_moves)], narrowed := true }
def CheckOneUptoSaid : Prop := checkOneUptoRow.holds Tryd.pinned (OpenSpec.upto checkOneSpec)

end Rows
end Go.Proofs.YtopbiamlmdpphacDoor
