/-
  NARROWER THAN 'FOR EVERY INPUT', by the rows' own cells (each row's printed sentence says how): MeterAdds: laid · MeterOnce: laid · MeterRefuses: laid · MeterLocks: laid.
  DERIVED. THE GIVEN ROWS OF THIS SEAT. 4 by the template 'for every input the law returns true; each argument reads behind the call as it read before'; 0 by the template 'total and deterministic' (their statements: YtmpapnblpjnlmabDoorTotals.lean).
  GIVEN WITH THE SEED: the statements are not yours to turn. If you find one false, say at which input.
  Laid BY PROGRAM, IN A SANDBOX (cutbox-rows.mjs): the forced cells as the released guide's own fill.sh prints them over the translation 9b4e774cc4781e75… (all of the seat's roots in one cut). By AI agents, Wed Nov 11 2026. No macro, syntax, notation, axiom, sorry.
-/
import Derived.Test.YtmpapnblpjnlmabDoorChecked
import GoSem.Claim
import GoSem.ClaimJoined
import GoSem.ClaimMapViews
import Derived.JoinedTies
import Derived.KernelRfl
namespace Go.Proofs.YtmpapnblpjnlmabDoor
/- THE CELL 'sum', in the pinned program and in every row, IS THE sha256 OF THE DUMP (.gsa) THAT YtmpapnblpjnlmabDoorProg.lean LOADS. Nothing in Lean hashes anything: it is a label: what it is worth is what the hold of that sum in a sandbox is worth. -/
noncomputable def Tryd.pinned : Pinned := { name := "ytmpapnblpjnlmabdoor", sum := "9b4e774cc4781e754d2ff6c214bcaf25226aebcd363c866837e4dbac36f0fe5f", checked := Tryd.checked }
namespace Rows
def none {H : Type} : Left H := { results := [], args := [] }

/- WHAT THE LISTED PACKAGE-LEVEL VARIABLES READ AS WHEN THE CALL BEGINS. Each datum BY PROGRAM (the guide's laid-datum.mjs) off the statement by which the dump's own 'gosem.cut.vars' lays the variable. In a bare row this is a premise. The card (YtmpapnblpjnlmabDoorCards.lean) ties it to the program's text. -/
def laid_vendmeter_token_places {H : Type} : DataW H := .agg [.agg [.lit (.int .i64 57), .lit (.int .i64 3)], .agg [.lit (.int .i64 37), .lit (.int .i64 20)], .agg [.lit (.int .i64 16), .lit (.int .i64 21)], .agg [.lit (.int .i64 0), .lit (.int .i64 16)]]
def laid_vendmeter_token_amounts {H : Type} : DataW H := .agg [.agg [.lit (.int .i64 1), .lit (.int .i64 2097151)], .agg [.lit (.int .i64 0), .lit (.int .i64 0)], .agg [.lit (.int .i64 1), .lit (.int .i64 15)], .agg [.lit (.int .i64 0), .lit (.int .i64 0)]]

/-- 'vendmeterkeep.MeterAdds': WHATEVER THE INPUT: true; the input reads as it did. -/
def meterAddsSpec : ChangeSpec := { name := "meterAdds", fn := fun _ => fun
  | [d1, d2] => { results := [.lit (.bool true)], args := [d1, d2] }
  | _ => none }
def meterAddsRow : OpenClaim := { program := "ytmpapnblpjnlmabdoor", sum := "9b4e774cc4781e754d2ff6c214bcaf25226aebcd363c866837e4dbac36f0fe5f", func := "vendmeter/vendmeterkeep.MeterAdds", spec := "meterAdds", unfollowed := true, recurses := true, named := ["vendmeter/token.amounts", "vendmeter/token.places"], plainKeys := false, apart := false, laid := [("vendmeter/token.places", laid_vendmeter_token_places), ("vendmeter/token.amounts", laid_vendmeter_token_amounts)] }
def MeterAddsSaid : Prop := meterAddsRow.holds Tryd.pinned (OpenSpec.ofChange meterAddsSpec)

/-- ITS FALSE NEIGHBOUR: 'it returns false'. Refute it at one input. -/
def meterAddsWrong : ChangeSpec := { name := "meterAdds", fn := fun _ => fun
  | [d1, d2] => { results := [.lit (.bool false)], args := [d1, d2] }
  | _ => none }
def MeterAddsWrongFalsely : Prop := meterAddsRow.holds Tryd.pinned (OpenSpec.ofChange meterAddsWrong)

/-- 'vendmeterkeep.MeterOnce': WHATEVER THE INPUT: true; the input reads as it did. -/
def meterOnceSpec : ChangeSpec := { name := "meterOnce", fn := fun _ => fun
  | [d1, d2] => { results := [.lit (.bool true)], args := [d1, d2] }
  | _ => none }
def meterOnceRow : OpenClaim := { program := "ytmpapnblpjnlmabdoor", sum := "9b4e774cc4781e754d2ff6c214bcaf25226aebcd363c866837e4dbac36f0fe5f", func := "vendmeter/vendmeterkeep.MeterOnce", spec := "meterOnce", unfollowed := true, recurses := true, named := ["vendmeter/token.amounts", "vendmeter/token.places"], plainKeys := false, apart := false, laid := [("vendmeter/token.places", laid_vendmeter_token_places), ("vendmeter/token.amounts", laid_vendmeter_token_amounts)] }
def MeterOnceSaid : Prop := meterOnceRow.holds Tryd.pinned (OpenSpec.ofChange meterOnceSpec)

/-- ITS FALSE NEIGHBOUR: 'it returns false'. Refute it at one input. -/
def meterOnceWrong : ChangeSpec := { name := "meterOnce", fn := fun _ => fun
  | [d1, d2] => { results := [.lit (.bool false)], args := [d1, d2] }
  | _ => none }
def MeterOnceWrongFalsely : Prop := meterOnceRow.holds Tryd.pinned (OpenSpec.ofChange meterOnceWrong)

/-- 'vendmeterkeep.MeterRefuses': WHATEVER THE INPUT: true; the input reads as it did. -/
def meterRefusesSpec : ChangeSpec := { name := "meterRefuses", fn := fun _ => fun
  | [d1, d2, d3] => { results := [.lit (.bool true)], args := [d1, d2, d3] }
  | _ => none }
def meterRefusesRow : OpenClaim := { program := "ytmpapnblpjnlmabdoor", sum := "9b4e774cc4781e754d2ff6c214bcaf25226aebcd363c866837e4dbac36f0fe5f", func := "vendmeter/vendmeterkeep.MeterRefuses", spec := "meterRefuses", unfollowed := true, recurses := true, named := ["vendmeter/token.amounts", "vendmeter/token.places"], plainKeys := false, apart := false, laid := [("vendmeter/token.places", laid_vendmeter_token_places), ("vendmeter/token.amounts", laid_vendmeter_token_amounts)] }
def MeterRefusesSaid : Prop := meterRefusesRow.holds Tryd.pinned (OpenSpec.ofChange meterRefusesSpec)

/-- ITS FALSE NEIGHBOUR: 'it returns false'. Refute it at one input. -/
def meterRefusesWrong : ChangeSpec := { name := "meterRefuses", fn := fun _ => fun
  | [d1, d2, d3] => { results := [.lit (.bool false)], args := [d1, d2, d3] }
  | _ => none }
def MeterRefusesWrongFalsely : Prop := meterRefusesRow.holds Tryd.pinned (OpenSpec.ofChange meterRefusesWrong)

/-- 'vendmeterkeep.MeterLocks': WHATEVER THE INPUT: true; the input reads as it did. -/
def meterLocksSpec : ChangeSpec := { name := "meterLocks", fn := fun _ => fun
  | [d1, d2, d3, d4] => { results := [.lit (.bool true)], args := [d1, d2, d3, d4] }
  | _ => none }
def meterLocksRow : OpenClaim := { program := "ytmpapnblpjnlmabdoor", sum := "9b4e774cc4781e754d2ff6c214bcaf25226aebcd363c866837e4dbac36f0fe5f", func := "vendmeter/vendmeterkeep.MeterLocks", spec := "meterLocks", unfollowed := true, recurses := true, named := ["vendmeter/token.amounts", "vendmeter/token.places"], plainKeys := false, apart := false, laid := [("vendmeter/token.places", laid_vendmeter_token_places), ("vendmeter/token.amounts", laid_vendmeter_token_amounts)] }
def MeterLocksSaid : Prop := meterLocksRow.holds Tryd.pinned (OpenSpec.ofChange meterLocksSpec)

/-- ITS FALSE NEIGHBOUR: 'it returns false'. Refute it at one input. -/
def meterLocksWrong : ChangeSpec := { name := "meterLocks", fn := fun _ => fun
  | [d1, d2, d3, d4] => { results := [.lit (.bool false)], args := [d1, d2, d3, d4] }
  | _ => none }
def MeterLocksWrongFalsely : Prop := meterLocksRow.holds Tryd.pinned (OpenSpec.ofChange meterLocksWrong)

/- THE SECOND FORM. 'bulk': how many values and letters a reading holds, each counted each time it is reached (what is shared counts as often as it is met; a slice's spare places count too). A statement '..UptoSaid' is the law's where the arguments, and the package variables that the reading takes, are together of bulk at most 1048576: NARROWER than '..Said'. Prove '..Said' where nothing that the law and all that it calls make is longer than what came in: it says more and counts as full. Else prove '..UptoSaid'. A law counts once. -/
mutual
def uptoBulk {H : Type} : DataW H → Nat
  | .lit (.string bytes) => bytes.length + 1
  | .lit _ => 1
  | .nil => 1
  | .ptr d => uptoBulk d + 1
  | .slice elems spare => uptoBulkAll elems + uptoBulkAll spare + 1
  | .agg parts => uptoBulkAll parts + 1
  | .iface _ d => uptoBulk d + 1
  | .map entries => uptoBulkEntries entries + 1
  | .held _ => 1
def uptoBulkAll {H : Type} : List (DataW H) → Nat
  | [] => 0
  | d :: r => uptoBulk d + uptoBulkAll r
def uptoBulkEntries {H : Type} : List (Lit × DataW H) → Nat
  | [] => 0
  | x :: r => uptoBulkEntry x + uptoBulkEntries r
def uptoBulkEntry {H : Type} : Lit × DataW H → Nat
  | (.string bytes, d) => bytes.length + uptoBulk d + 1
  | (_, d) => uptoBulk d + 1
 end
def uptoSmall : (H : Type) → List (DataW H) → Bool := fun _ ds => decide (uptoBulkAll ds ≤ 1048576)
def OpenSpec.upto (s : _root_.Go.ChangeSpec) : _root_.Go.OpenSpec := { _root_.Go.OpenSpec.ofChange s with cond := some uptoSmall }

/-- 'vendmeterkeep.MeterAdds', WHERE WHAT IT READS IS OF BULK AT MOST 1048576: true; the input reads as it did. -/
def meterAddsUptoRow : OpenClaim := { program := "ytmpapnblpjnlmabdoor", sum := "9b4e774cc4781e754d2ff6c214bcaf25226aebcd363c866837e4dbac36f0fe5f", func := "vendmeter/vendmeterkeep.MeterAdds", spec := "meterAdds", unfollowed := true, recurses := true, named := ["vendmeter/token.amounts", "vendmeter/token.places"], plainKeys := false, apart := false, laid := [("vendmeter/token.places", laid_vendmeter_token_places), ("vendmeter/token.amounts", laid_vendmeter_token_amounts)], narrowed := true }
def MeterAddsUptoSaid : Prop := meterAddsUptoRow.holds Tryd.pinned (OpenSpec.upto meterAddsSpec)

/-- 'vendmeterkeep.MeterOnce', WHERE WHAT IT READS IS OF BULK AT MOST 1048576: true; the input reads as it did. -/
def meterOnceUptoRow : OpenClaim := { program := "ytmpapnblpjnlmabdoor", sum := "9b4e774cc4781e754d2ff6c214bcaf25226aebcd363c866837e4dbac36f0fe5f", func := "vendmeter/vendmeterkeep.MeterOnce", spec := "meterOnce", unfollowed := true, recurses := true, named := ["vendmeter/token.amounts", "vendmeter/token.places"], plainKeys := false, apart := false, laid := [("vendmeter/token.places", laid_vendmeter_token_places), ("vendmeter/token.amounts", laid_vendmeter_token_amounts)], narrowed := true }
def MeterOnceUptoSaid : Prop := meterOnceUptoRow.holds Tryd.pinned (OpenSpec.upto meterOnceSpec)

/-- 'vendmeterkeep.MeterRefuses', WHERE WHAT IT READS IS OF BULK AT MOST 1048576: true; the input reads as it did. -/
def meterRefusesUptoRow : OpenClaim := { program := "ytmpapnblpjnlmabdoor", sum := "9b4e774cc4781e754d2ff6c214bcaf25226aebcd363c866837e4dbac36f0fe5f", func := "vendmeter/vendmeterkeep.MeterRefuses", spec := "meterRefuses", unfollowed := true, recurses := true, named := ["vendmeter/token.amounts", "vendmeter/token.places"], plainKeys := false, apart := false, laid := [("vendmeter/token.places", laid_vendmeter_token_places), ("vendmeter/token.amounts", laid_vendmeter_token_amounts)], narrowed := true }
def MeterRefusesUptoSaid : Prop := meterRefusesUptoRow.holds Tryd.pinned (OpenSpec.upto meterRefusesSpec)

/-- 'vendmeterkeep.MeterLocks', WHERE WHAT IT READS IS OF BULK AT MOST 1048576: true; the input reads as it did. -/
def meterLocksUptoRow : OpenClaim := { program := "ytmpapnblpjnlmabdoor", sum := "9b4e774cc4781e754d2ff6c214bcaf25226aebcd363c866837e4dbac36f0fe5f", func := "vendmeter/vendmeterkeep.MeterLocks", spec := "meterLocks", unfollowed := true, recurses := true, named := ["vendmeter/token.amounts", "vendmeter/token.places"], plainKeys := false, apart := false, laid := [("vendmeter/token.places", laid_vendmeter_token_places), ("vendmeter/token.amounts", laid_vendmeter_token_amounts)], narrowed := true }
def MeterLocksUptoSaid : Prop := meterLocksUptoRow.holds Tryd.pinned (OpenSpec.upto meterLocksSpec)

end Rows
end Go.Proofs.YtmpapnblpjnlmabDoor
