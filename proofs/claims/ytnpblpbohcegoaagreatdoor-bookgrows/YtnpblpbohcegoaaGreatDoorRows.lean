/-
  NARROWER THAN 'FOR EVERY INPUT', by the rows' own cells (each row's printed sentence says how): VendReprints: laid · BookNumbers: laid · BookGrows: laid · BookTurned: laid · VendCut: laid · VendRetry: laid.
  DERIVED. THE GIVEN ROWS OF THIS SEAT. 6 by the template 'for every input the law returns true; each argument reads behind the call as it read before'; 0 by the template 'total and deterministic' (their statements: YtnpblpbohcegoaaGreatDoorTotals.lean).
  GIVEN WITH THE SEED: the statements are not yours to turn. If you find one false, say at which input.
  Laid BY PROGRAM, IN A SANDBOX (cutbox-rows.mjs): the forced cells as the released guide's own fill.sh prints them over the translation a6f45a430f6757b8… (all of the seat's roots in one cut). By AI agents, Wed Nov 11 2026. No macro, syntax, notation, axiom, sorry.
-/
import Derived.Test.YtnpblpbohcegoaaGreatDoorChecked
import GoSem.Claim
import GoSem.ClaimJoined
import GoSem.ClaimMapViews
import Derived.JoinedTies
import Derived.KernelRfl
namespace Go.Proofs.YtnpblpbohcegoaaGreatDoor
/- THE CELL 'sum', in the pinned program and in every row, IS THE sha256 OF THE DUMP (.gsa) THAT YtnpblpbohcegoaaGreatDoorProg.lean LOADS. Nothing in Lean hashes anything: it is a label: what it is worth is what the hold of that sum in a sandbox is worth. -/
noncomputable def Tryz.pinned : Pinned := { name := "ytnpblpbohcegoaagreatdoor", sum := "a6f45a430f6757b82f48164567c89d76147dc8327940646705baf513b3d680e2", checked := Tryz.checked }
namespace Rows
def none {H : Type} : Left H := { results := [], args := [] }

/- WHAT THE LISTED PACKAGE-LEVEL VARIABLES READ AS WHEN THE CALL BEGINS. Each datum BY PROGRAM (the guide's laid-datum.mjs) off the statement by which the dump's own 'gosem.cut.vars' lays the variable. In a bare row this is a premise. The card (YtnpblpbohcegoaaGreatDoorCards.lean) ties it to the program's text. -/
def laid_vendmeter_token_places {H : Type} : DataW H := .agg [.agg [.lit (.int .i64 57), .lit (.int .i64 3)], .agg [.lit (.int .i64 37), .lit (.int .i64 20)], .agg [.lit (.int .i64 16), .lit (.int .i64 21)], .agg [.lit (.int .i64 0), .lit (.int .i64 16)]]
def laid_vendmeter_token_amounts {H : Type} : DataW H := .agg [.agg [.lit (.int .i64 1), .lit (.int .i64 2097151)], .agg [.lit (.int .i64 0), .lit (.int .i64 0)], .agg [.lit (.int .i64 1), .lit (.int .i64 15)], .agg [.lit (.int .i64 0), .lit (.int .i64 0)]]

/-- 'vendmeterlaw.VendReprints': WHATEVER THE INPUT: true; the input reads as it did. -/
def vendReprintsSpec : ChangeSpec := { name := "vendReprints", fn := fun _ => fun
  | [d1, d2, d3, d4] => { results := [.lit (.bool true)], args := [d1, d2, d3, d4] }
  | _ => none }
def vendReprintsRow : OpenClaim := { program := "ytnpblpbohcegoaagreatdoor", sum := "a6f45a430f6757b82f48164567c89d76147dc8327940646705baf513b3d680e2", func := "vendmeter/vendmeterlaw.VendReprints", spec := "vendReprints", inPlace := ["internal/abi.NoEscape", "internal/bytealg.MakeNoZero"], unfollowed := true, recurses := true, named := ["vendmeter/token.amounts", "vendmeter/token.places"], plainKeys := false, apart := false, laid := [("vendmeter/token.places", laid_vendmeter_token_places), ("vendmeter/token.amounts", laid_vendmeter_token_amounts)] }
def VendReprintsSaid : Prop := vendReprintsRow.holds Tryz.pinned (OpenSpec.ofChange vendReprintsSpec)

/-- ITS FALSE NEIGHBOUR: 'it returns false'. Refute it at one input. -/
def vendReprintsWrong : ChangeSpec := { name := "vendReprints", fn := fun _ => fun
  | [d1, d2, d3, d4] => { results := [.lit (.bool false)], args := [d1, d2, d3, d4] }
  | _ => none }
def VendReprintsWrongFalsely : Prop := vendReprintsRow.holds Tryz.pinned (OpenSpec.ofChange vendReprintsWrong)

/-- 'vendmeterkeep.BookNumbers': WHATEVER THE INPUT: true; the input reads as it did. -/
def bookNumbersSpec : ChangeSpec := { name := "bookNumbers", fn := fun _ => fun
  | [d1, d2] => { results := [.lit (.bool true)], args := [d1, d2] }
  | _ => none }
def bookNumbersRow : OpenClaim := { program := "ytnpblpbohcegoaagreatdoor", sum := "a6f45a430f6757b82f48164567c89d76147dc8327940646705baf513b3d680e2", func := "vendmeter/vendmeterkeep.BookNumbers", spec := "bookNumbers", inPlace := ["internal/abi.NoEscape", "internal/bytealg.MakeNoZero"], unfollowed := true, recurses := true, named := ["vendmeter/token.amounts", "vendmeter/token.places"], plainKeys := false, apart := false, laid := [("vendmeter/token.places", laid_vendmeter_token_places), ("vendmeter/token.amounts", laid_vendmeter_token_amounts)] }
def BookNumbersSaid : Prop := bookNumbersRow.holds Tryz.pinned (OpenSpec.ofChange bookNumbersSpec)

/-- ITS FALSE NEIGHBOUR: 'it returns false'. Refute it at one input. -/
def bookNumbersWrong : ChangeSpec := { name := "bookNumbers", fn := fun _ => fun
  | [d1, d2] => { results := [.lit (.bool false)], args := [d1, d2] }
  | _ => none }
def BookNumbersWrongFalsely : Prop := bookNumbersRow.holds Tryz.pinned (OpenSpec.ofChange bookNumbersWrong)

/-- 'vendmeterkeep.BookGrows': WHATEVER THE INPUT: true; the input reads as it did. -/
def bookGrowsSpec : ChangeSpec := { name := "bookGrows", fn := fun _ => fun
  | [d1, d2, d3] => { results := [.lit (.bool true)], args := [d1, d2, d3] }
  | _ => none }
def bookGrowsRow : OpenClaim := { program := "ytnpblpbohcegoaagreatdoor", sum := "a6f45a430f6757b82f48164567c89d76147dc8327940646705baf513b3d680e2", func := "vendmeter/vendmeterkeep.BookGrows", spec := "bookGrows", inPlace := ["internal/abi.NoEscape", "internal/bytealg.MakeNoZero"], unfollowed := true, recurses := true, named := ["vendmeter/token.amounts", "vendmeter/token.places"], plainKeys := false, apart := false, laid := [("vendmeter/token.places", laid_vendmeter_token_places), ("vendmeter/token.amounts", laid_vendmeter_token_amounts)] }
def BookGrowsSaid : Prop := bookGrowsRow.holds Tryz.pinned (OpenSpec.ofChange bookGrowsSpec)

/-- ITS FALSE NEIGHBOUR: 'it returns false'. Refute it at one input. -/
def bookGrowsWrong : ChangeSpec := { name := "bookGrows", fn := fun _ => fun
  | [d1, d2, d3] => { results := [.lit (.bool false)], args := [d1, d2, d3] }
  | _ => none }
def BookGrowsWrongFalsely : Prop := bookGrowsRow.holds Tryz.pinned (OpenSpec.ofChange bookGrowsWrong)

/-- 'vendmeterkeep.BookTurned': WHATEVER THE INPUT: true; the input reads as it did. -/
def bookTurnedSpec : ChangeSpec := { name := "bookTurned", fn := fun _ => fun
  | [d1, d2, d3, d4] => { results := [.lit (.bool true)], args := [d1, d2, d3, d4] }
  | _ => none }
def bookTurnedRow : OpenClaim := { program := "ytnpblpbohcegoaagreatdoor", sum := "a6f45a430f6757b82f48164567c89d76147dc8327940646705baf513b3d680e2", func := "vendmeter/vendmeterkeep.BookTurned", spec := "bookTurned", inPlace := ["internal/abi.NoEscape", "internal/bytealg.MakeNoZero"], unfollowed := true, recurses := true, named := ["vendmeter/token.amounts", "vendmeter/token.places"], plainKeys := false, apart := false, laid := [("vendmeter/token.places", laid_vendmeter_token_places), ("vendmeter/token.amounts", laid_vendmeter_token_amounts)] }
def BookTurnedSaid : Prop := bookTurnedRow.holds Tryz.pinned (OpenSpec.ofChange bookTurnedSpec)

/-- ITS FALSE NEIGHBOUR: 'it returns false'. Refute it at one input. -/
def bookTurnedWrong : ChangeSpec := { name := "bookTurned", fn := fun _ => fun
  | [d1, d2, d3, d4] => { results := [.lit (.bool false)], args := [d1, d2, d3, d4] }
  | _ => none }
def BookTurnedWrongFalsely : Prop := bookTurnedRow.holds Tryz.pinned (OpenSpec.ofChange bookTurnedWrong)

/-- 'vendmeterkeep.VendCut': WHATEVER THE INPUT: true; the input reads as it did. -/
def vendCutSpec : ChangeSpec := { name := "vendCut", fn := fun _ => fun
  | [d1, d2, d3, d4] => { results := [.lit (.bool true)], args := [d1, d2, d3, d4] }
  | _ => none }
def vendCutRow : OpenClaim := { program := "ytnpblpbohcegoaagreatdoor", sum := "a6f45a430f6757b82f48164567c89d76147dc8327940646705baf513b3d680e2", func := "vendmeter/vendmeterkeep.VendCut", spec := "vendCut", inPlace := ["internal/abi.NoEscape", "internal/bytealg.MakeNoZero"], unfollowed := true, recurses := true, named := ["vendmeter/token.amounts", "vendmeter/token.places"], plainKeys := false, apart := false, laid := [("vendmeter/token.places", laid_vendmeter_token_places), ("vendmeter/token.amounts", laid_vendmeter_token_amounts)] }
def VendCutSaid : Prop := vendCutRow.holds Tryz.pinned (OpenSpec.ofChange vendCutSpec)

/-- ITS FALSE NEIGHBOUR: 'it returns false'. Refute it at one input. -/
def vendCutWrong : ChangeSpec := { name := "vendCut", fn := fun _ => fun
  | [d1, d2, d3, d4] => { results := [.lit (.bool false)], args := [d1, d2, d3, d4] }
  | _ => none }
def VendCutWrongFalsely : Prop := vendCutRow.holds Tryz.pinned (OpenSpec.ofChange vendCutWrong)

/-- 'vendmeterkeep.VendRetry': WHATEVER THE INPUT: true; the input reads as it did. -/
def vendRetrySpec : ChangeSpec := { name := "vendRetry", fn := fun _ => fun
  | [d1, d2, d3, d4, d5] => { results := [.lit (.bool true)], args := [d1, d2, d3, d4, d5] }
  | _ => none }
def vendRetryRow : OpenClaim := { program := "ytnpblpbohcegoaagreatdoor", sum := "a6f45a430f6757b82f48164567c89d76147dc8327940646705baf513b3d680e2", func := "vendmeter/vendmeterkeep.VendRetry", spec := "vendRetry", inPlace := ["internal/abi.NoEscape", "internal/bytealg.MakeNoZero"], unfollowed := true, recurses := true, named := ["vendmeter/token.amounts", "vendmeter/token.places"], plainKeys := false, apart := false, laid := [("vendmeter/token.places", laid_vendmeter_token_places), ("vendmeter/token.amounts", laid_vendmeter_token_amounts)] }
def VendRetrySaid : Prop := vendRetryRow.holds Tryz.pinned (OpenSpec.ofChange vendRetrySpec)

/-- ITS FALSE NEIGHBOUR: 'it returns false'. Refute it at one input. -/
def vendRetryWrong : ChangeSpec := { name := "vendRetry", fn := fun _ => fun
  | [d1, d2, d3, d4, d5] => { results := [.lit (.bool false)], args := [d1, d2, d3, d4, d5] }
  | _ => none }
def VendRetryWrongFalsely : Prop := vendRetryRow.holds Tryz.pinned (OpenSpec.ofChange vendRetryWrong)

/- THE SECOND FORM. 'bulk': how many values and letters a reading holds, each counted each time it is reached (what is shared counts as often as it is met; a slice's spare places count too). A statement '..UptoSaid' is the law's where the arguments, and the package variables that the reading takes, are together of bulk at most 1048576: NARROWER than '..Said'. Prove '..Said' where nothing that the law and all that it calls make is longer than what came in: it says more and counts as full. Else prove '..UptoSaid'. A law counts once. -/
mutual
def uptoBulk {H : Type} : DataW H → Nat
  | .lit (.string bytes) => bytes.length + 1
  | .lit _ => 1
  | .nil => 1
  | .ptr d => uptoBulk d + 1
  | .slice elems spare => uptoBulkAll elems + uptoBulkAll spare + 1
  | .agg parts => uptoBulkAll parts + 1
  | .iface _ d => uptoBulk d + 1
  | .map entries => uptoBulkEntries entries + 1
  | .held _ => 1
def uptoBulkAll {H : Type} : List (DataW H) → Nat
  | [] => 0
  | d :: r => uptoBulk d + uptoBulkAll r
def uptoBulkEntries {H : Type} : List (Lit × DataW H) → Nat
  | [] => 0
  | x :: r => uptoBulkEntry x + uptoBulkEntries r
def uptoBulkEntry {H : Type} : Lit × DataW H → Nat
  | (.string bytes, d) => bytes.length + uptoBulk d + 1
  | (_, d) => uptoBulk d + 1
 end
def uptoSmall : (H : Type) → List (DataW H) → Bool := fun _ ds => decide (uptoBulkAll ds ≤ 1048576)
def OpenSpec.upto (s : _root_.Go.ChangeSpec) : _root_.Go.OpenSpec := { _root_.Go.OpenSpec.ofChange s with cond := some uptoSmall }

/-- 'vendmeterlaw.VendReprints', WHERE WHAT IT READS IS OF BULK AT MOST 1048576: true; the input reads as it did. -/
def vendReprintsUptoRow : OpenClaim := { program := "ytnpblpbohcegoaagreatdoor", sum := "a6f45a430f6757b82f48164567c89d76147dc8327940646705baf513b3d680e2", func := "vendmeter/vendmeterlaw.VendReprints", spec := "vendReprints", inPlace := ["internal/abi.NoEscape", "internal/bytealg.MakeNoZero"], unfollowed := true, recurses := true, named := ["vendmeter/token.amounts", "vendmeter/token.places"], plainKeys := false, apart := false, laid := [("vendmeter/token.places", laid_vendmeter_token_places), ("vendmeter/token.amounts", laid_vendmeter_token_amounts)], narrowed := true }
def VendReprintsUptoSaid : Prop := vendReprintsUptoRow.holds Tryz.pinned (OpenSpec.upto vendReprintsSpec)

/-- 'vendmeterkeep.BookNumbers', WHERE WHAT IT READS IS OF BULK AT MOST 1048576: true; the input reads as it did. -/
def bookNumbersUptoRow : OpenClaim := { program := "ytnpblpbohcegoaagreatdoor", sum := "a6f45a430f6757b82f48164567c89d76147dc8327940646705baf513b3d680e2", func := "vendmeter/vendmeterkeep.BookNumbers", spec := "bookNumbers", inPlace := ["internal/abi.NoEscape", "internal/bytealg.MakeNoZero"], unfollowed := true, recurses := true, named := ["vendmeter/token.amounts", "vendmeter/token.places"], plainKeys := false, apart := false, laid := [("vendmeter/token.places", laid_vendmeter_token_places), ("vendmeter/token.amounts", laid_vendmeter_token_amounts)], narrowed := true }
def BookNumbersUptoSaid : Prop := bookNumbersUptoRow.holds Tryz.pinned (OpenSpec.upto bookNumbersSpec)

/-- 'vendmeterkeep.BookGrows', WHERE WHAT IT READS IS OF BULK AT MOST 1048576: true; the input reads as it did. -/
def bookGrowsUptoRow : OpenClaim := { program := "ytnpblpbohcegoaagreatdoor", sum := "a6f45a430f6757b82f48164567c89d76147dc8327940646705baf513b3d680e2", func := "vendmeter/vendmeterkeep.BookGrows", spec := "bookGrows", inPlace := ["internal/abi.NoEscape", "internal/bytealg.MakeNoZero"], unfollowed := true, recurses := true, named := ["vendmeter/token.amounts", "vendmeter/token.places"], plainKeys := false, apart := false, laid := [("vendmeter/token.places", laid_vendmeter_token_places), ("vendmeter/token.amounts", laid_vendmeter_token_amounts)], narrowed := true }
def BookGrowsUptoSaid : Prop := bookGrowsUptoRow.holds Tryz.pinned (OpenSpec.upto bookGrowsSpec)

/-- 'vendmeterkeep.BookTurned', WHERE WHAT IT READS IS OF BULK AT MOST 1048576: true; the input reads as it did. -/
def bookTurnedUptoRow : OpenClaim := { program := "ytnpblpbohcegoaagreatdoor", sum := "a6f45a430f6757b82f48164567c89d76147dc8327940646705baf513b3d680e2", func := "vendmeter/vendmeterkeep.BookTurned", spec := "bookTurned", inPlace := ["internal/abi.NoEscape", "internal/bytealg.MakeNoZero"], unfollowed := true, recurses := true, named := ["vendmeter/token.amounts", "vendmeter/token.places"], plainKeys := false, apart := false, laid := [("vendmeter/token.places", laid_vendmeter_token_places), ("vendmeter/token.amounts", laid_vendmeter_token_amounts)], narrowed := true }
def BookTurnedUptoSaid : Prop := bookTurnedUptoRow.holds Tryz.pinned (OpenSpec.upto bookTurnedSpec)

/-- 'vendmeterkeep.VendCut', WHERE WHAT IT READS IS OF BULK AT MOST 1048576: true; the input reads as it did. -/
def vendCutUptoRow : OpenClaim := { program := "ytnpblpbohcegoaagreatdoor", sum := "a6f45a430f6757b82f48164567c89d76147dc8327940646705baf513b3d680e2", func := "vendmeter/vendmeterkeep.VendCut", spec := "vendCut", inPlace := ["internal/abi.NoEscape", "internal/bytealg.MakeNoZero"], unfollowed := true, recurses := true, named := ["vendmeter/token.amounts", "vendmeter/token.places"], plainKeys := false, apart := false, laid := [("vendmeter/token.places", laid_vendmeter_token_places), ("vendmeter/token.amounts", laid_vendmeter_token_amounts)], narrowed := true }
def VendCutUptoSaid : Prop := vendCutUptoRow.holds Tryz.pinned (OpenSpec.upto vendCutSpec)

/-- 'vendmeterkeep.VendRetry', WHERE WHAT IT READS IS OF BULK AT MOST 1048576: true; the input reads as it did. -/
def vendRetryUptoRow : OpenClaim := { program := "ytnpblpbohcegoaagreatdoor", sum := "a6f45a430f6757b82f48164567c89d76147dc8327940646705baf513b3d680e2", func := "vendmeter/vendmeterkeep.VendRetry", spec := "vendRetry", inPlace := ["internal/abi.NoEscape", "internal/bytealg.MakeNoZero"], unfollowed := true, recurses := true, named := ["vendmeter/token.amounts", "vendmeter/token.places"], plainKeys := false, apart := false, laid := [("vendmeter/token.places", laid_vendmeter_token_places), ("vendmeter/token.amounts", laid_vendmeter_token_amounts)], narrowed := true }
def VendRetryUptoSaid : Prop := vendRetryUptoRow.holds Tryz.pinned (OpenSpec.upto vendRetrySpec)

end Rows
end Go.Proofs.YtnpblpbohcegoaaGreatDoor
