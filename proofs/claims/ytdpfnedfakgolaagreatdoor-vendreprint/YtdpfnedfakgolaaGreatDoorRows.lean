/-
  NARROWER THAN 'FOR EVERY INPUT', by the rows' own cells (each row's printed sentence says how): VendPaper: laid · VendReprint: laid.
  DERIVED. THE GIVEN ROWS OF THIS SEAT. 2 by the template 'for every input the law returns true; each argument reads behind the call as it read before'; 0 by the template 'total and deterministic' (their statements: YtdpfnedfakgolaaGreatDoorTotals.lean).
  GIVEN WITH THE SEED: the statements are not yours to turn. If you find one false, say at which input.
  Laid BY PROGRAM, IN A SANDBOX (cutbox-rows.mjs): the forced cells as the released guide's own fill.sh prints them over the translation ecffd0ec3ba15c75… (all of the seat's roots in one cut). By AI agents, Wed Nov 11 2026. No macro, syntax, notation, axiom, sorry.
-/
import Derived.Test.YtdpfnedfakgolaaGreatDoorChecked
import GoSem.Claim
import GoSem.ClaimJoined
import GoSem.ClaimMapViews
import Derived.JoinedTies
import Derived.KernelRfl
namespace Go.Proofs.YtdpfnedfakgolaaGreatDoor
/- THE CELL 'sum', in the pinned program and in every row, IS THE sha256 OF THE DUMP (.gsa) THAT YtdpfnedfakgolaaGreatDoorProg.lean LOADS. Nothing in Lean hashes anything: it is a label: what it is worth is what the hold of that sum in a sandbox is worth. -/
noncomputable def Tryz.pinned : Pinned := { name := "ytdpfnedfakgolaagreatdoor", sum := "ecffd0ec3ba15c75fbe246bab99add5b739ef103ad5fe9672f2cf4f2fa355a99", checked := Tryz.checked }
namespace Rows
def none {H : Type} : Left H := { results := [], args := [] }

/- WHAT THE LISTED PACKAGE-LEVEL VARIABLES READ AS WHEN THE CALL BEGINS. Each datum BY PROGRAM (the guide's laid-datum.mjs) off the statement by which the dump's own 'gosem.cut.vars' lays the variable. In a bare row this is a premise. The card (YtdpfnedfakgolaaGreatDoorCards.lean) ties it to the program's text. -/
def laid_vendmeter_token_places {H : Type} : DataW H := .agg [.agg [.lit (.int .i64 57), .lit (.int .i64 3)], .agg [.lit (.int .i64 37), .lit (.int .i64 20)], .agg [.lit (.int .i64 16), .lit (.int .i64 21)], .agg [.lit (.int .i64 0), .lit (.int .i64 16)]]
def laid_vendmeter_token_amounts {H : Type} : DataW H := .agg [.agg [.lit (.int .i64 1), .lit (.int .i64 2097151)], .agg [.lit (.int .i64 0), .lit (.int .i64 0)], .agg [.lit (.int .i64 1), .lit (.int .i64 15)], .agg [.lit (.int .i64 0), .lit (.int .i64 0)]]

/-- 'vendmeterkeep.VendPaper': WHATEVER THE INPUT: true; the input reads as it did. -/
def vendPaperSpec : ChangeSpec := { name := "vendPaper", fn := fun _ => fun
  | [d1, d2, d3] => { results := [.lit (.bool true)], args := [d1, d2, d3] }
  | _ => none }
def vendPaperRow : OpenClaim := { program := "ytdpfnedfakgolaagreatdoor", sum := "ecffd0ec3ba15c75fbe246bab99add5b739ef103ad5fe9672f2cf4f2fa355a99", func := "vendmeter/vendmeterkeep.VendPaper", spec := "vendPaper", inPlace := ["internal/abi.NoEscape", "internal/bytealg.MakeNoZero"], unfollowed := true, recurses := true, named := ["vendmeter/token.amounts", "vendmeter/token.places"], plainKeys := false, apart := false, laid := [("vendmeter/token.places", laid_vendmeter_token_places), ("vendmeter/token.amounts", laid_vendmeter_token_amounts)] }
def VendPaperSaid : Prop := vendPaperRow.holds Tryz.pinned (OpenSpec.ofChange vendPaperSpec)

/-- ITS FALSE NEIGHBOUR: 'it returns false'. Refute it at one input. -/
def vendPaperWrong : ChangeSpec := { name := "vendPaper", fn := fun _ => fun
  | [d1, d2, d3] => { results := [.lit (.bool false)], args := [d1, d2, d3] }
  | _ => none }
def VendPaperWrongFalsely : Prop := vendPaperRow.holds Tryz.pinned (OpenSpec.ofChange vendPaperWrong)

/-- 'vendmeterkeep.VendReprint': WHATEVER THE INPUT: true; the input reads as it did. -/
def vendReprintSpec : ChangeSpec := { name := "vendReprint", fn := fun _ => fun
  | [d1, d2, d3, d4] => { results := [.lit (.bool true)], args := [d1, d2, d3, d4] }
  | _ => none }
def vendReprintRow : OpenClaim := { program := "ytdpfnedfakgolaagreatdoor", sum := "ecffd0ec3ba15c75fbe246bab99add5b739ef103ad5fe9672f2cf4f2fa355a99", func := "vendmeter/vendmeterkeep.VendReprint", spec := "vendReprint", inPlace := ["internal/abi.NoEscape", "internal/bytealg.MakeNoZero"], unfollowed := true, recurses := true, named := ["vendmeter/token.amounts", "vendmeter/token.places"], plainKeys := false, apart := false, laid := [("vendmeter/token.places", laid_vendmeter_token_places), ("vendmeter/token.amounts", laid_vendmeter_token_amounts)] }
def VendReprintSaid : Prop := vendReprintRow.holds Tryz.pinned (OpenSpec.ofChange vendReprintSpec)

/-- ITS FALSE NEIGHBOUR: 'it returns false'. Refute it at one input. -/
def vendReprintWrong : ChangeSpec := { name := "vendReprint", fn := fun _ => fun
  | [d1, d2, d3, d4] => { results := [.lit (.bool false)], args := [d1, d2, d3, d4] }
  | _ => none }
def VendReprintWrongFalsely : Prop := vendReprintRow.holds Tryz.pinned (OpenSpec.ofChange vendReprintWrong)

/- THE SECOND FORM. 'bulk': how many values and letters a reading holds, each counted each time it is reached (what is shared counts as often as it is met; a slice's spare places count too). A statement '..UptoSaid' is the law's where the arguments, and the package variables that the reading takes, are together of bulk at most 1048576: NARROWER than '..Said'. Prove '..Said' where nothing that the law and all that it calls make is longer than what came in: it says more and counts as full. Else prove '..UptoSaid'. A law counts once. -/
mutual
def uptoBulk {H : Type} : DataW H → Nat
  | .lit (.string bytes) => bytes.length + 1
  | .lit _ => 1
  | .nil => 1
  | .ptr d => uptoBulk d + 1
  | .slice elems spare => uptoBulkAll elems + uptoBulkAll spare + 1
  | .agg parts => uptoBulkAll parts + 1
  | .iface _ d => uptoBulk d + 1
  | .map entries => uptoBulkEntries entries + 1
  | .held _ => 1
def uptoBulkAll {H : Type} : List (DataW H) → Nat
  | [] => 0
  | d :: r => uptoBulk d + uptoBulkAll r
def uptoBulkEntries {H : Type} : List (Lit × DataW H) → Nat
  | [] => 0
  | x :: r => uptoBulkEntry x + uptoBulkEntries r
def uptoBulkEntry {H : Type} : Lit × DataW H → Nat
  | (.string bytes, d) => bytes.length + uptoBulk d + 1
  | (_, d) => uptoBulk d + 1
 end
def uptoSmall : (H : Type) → List (DataW H) → Bool := fun _ ds => decide (uptoBulkAll ds ≤ 1048576)
def OpenSpec.upto (s : _root_.Go.ChangeSpec) : _root_.Go.OpenSpec := { _root_.Go.OpenSpec.ofChange s with cond := some uptoSmall }

/-- 'vendmeterkeep.VendPaper', WHERE WHAT IT READS IS OF BULK AT MOST 1048576: true; the input reads as it did. -/
def vendPaperUptoRow : OpenClaim := { program := "ytdpfnedfakgolaagreatdoor", sum := "ecffd0ec3ba15c75fbe246bab99add5b739ef103ad5fe9672f2cf4f2fa355a99", func := "vendmeter/vendmeterkeep.VendPaper", spec := "vendPaper", inPlace := ["internal/abi.NoEscape", "internal/bytealg.MakeNoZero"], unfollowed := true, recurses := true, named := ["vendmeter/token.amounts", "vendmeter/token.places"], plainKeys := false, apart := false, laid := [("vendmeter/token.places", laid_vendmeter_token_places), ("vendmeter/token.amounts", laid_vendmeter_token_amounts)], narrowed := true }
def VendPaperUptoSaid : Prop := vendPaperUptoRow.holds Tryz.pinned (OpenSpec.upto vendPaperSpec)

/-- 'vendmeterkeep.VendReprint', WHERE WHAT IT READS IS OF BULK AT MOST 1048576: true; the input reads as it did. -/
def vendReprintUptoRow : OpenClaim := { program := "ytdpfnedfakgolaagreatdoor", sum := "ecffd0ec3ba15c75fbe246bab99add5b739ef103ad5fe9672f2cf4f2fa355a99", func := "vendmeter/vendmeterkeep.VendReprint", spec := "vendReprint", inPlace := ["internal/abi.NoEscape", "internal/bytealg.MakeNoZero"], unfollowed := true, recurses := true, named := ["vendmeter/token.amounts", "vendmeter/token.places"], plainKeys := false, apart := false, laid := [("vendmeter/token.places", laid_vendmeter_token_places), ("vendmeter/token.amounts", laid_vendmeter_token_amounts)], narrowed := true }
def VendReprintUptoSaid : Prop := vendReprintUptoRow.holds Tryz.pinned (OpenSpec.upto vendReprintSpec)

end Rows
end Go.Proofs.YtdpfnedfakgolaaGreatDoor
