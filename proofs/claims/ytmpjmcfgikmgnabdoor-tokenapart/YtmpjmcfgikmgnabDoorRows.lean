/-
  NARROWER THAN 'FOR EVERY INPUT', by the rows' own cells (each row's printed sentence says how): TokenSlip: laid · TokenSwap: laid · TokenTwin: laid · TokenApart: laid.
  DERIVED. THE GIVEN ROWS OF THIS SEAT. 4 by the template 'for every input the law returns true; each argument reads behind the call as it read before'; 0 by the template 'total and deterministic' (their statements: YtmpjmcfgikmgnabDoorTotals.lean).
  GIVEN WITH THE SEED: the statements are not yours to turn. If you find one false, say at which input.
  Laid BY PROGRAM, IN A SANDBOX (cutbox-rows.mjs): the forced cells as the released guide's own fill.sh prints them over the translation fd164fc30ddc67c8… (all of the seat's roots in one cut). By AI agents, Wed Nov 11 2026. No macro, syntax, notation, axiom, sorry.
-/
import Derived.Test.YtmpjmcfgikmgnabDoorChecked
import GoSem.Claim
import GoSem.ClaimJoined
import GoSem.ClaimMapViews
import Derived.JoinedTies
import Derived.KernelRfl
namespace Go.Proofs.YtmpjmcfgikmgnabDoor
/- THE CELL 'sum', in the pinned program and in every row, IS THE sha256 OF THE DUMP (.gsa) THAT YtmpjmcfgikmgnabDoorProg.lean LOADS. Nothing in Lean hashes anything: it is a label: what it is worth is what the hold of that sum in a sandbox is worth. -/
noncomputable def Tryd.pinned : Pinned := { name := "ytmpjmcfgikmgnabdoor", sum := "fd164fc30ddc67c8d65fa469c3fc64c469937055c2244c8e64122e445ab9a5d8", checked := Tryd.checked }
namespace Rows
def none {H : Type} : Left H := { results := [], args := [] }

/- WHAT THE LISTED PACKAGE-LEVEL VARIABLES READ AS WHEN THE CALL BEGINS. Each datum BY PROGRAM (the guide's laid-datum.mjs) off the statement by which the dump's own 'gosem.cut.vars' lays the variable. In a bare row this is a premise. The card (YtmpjmcfgikmgnabDoorCards.lean) ties it to the program's text. -/
def laid_vendmeter_token_places {H : Type} : DataW H := .agg [.agg [.lit (.int .i64 57), .lit (.int .i64 3)], .agg [.lit (.int .i64 37), .lit (.int .i64 20)], .agg [.lit (.int .i64 16), .lit (.int .i64 21)], .agg [.lit (.int .i64 0), .lit (.int .i64 16)]]
def laid_vendmeter_token_amounts {H : Type} : DataW H := .agg [.agg [.lit (.int .i64 1), .lit (.int .i64 2097151)], .agg [.lit (.int .i64 0), .lit (.int .i64 0)], .agg [.lit (.int .i64 1), .lit (.int .i64 15)], .agg [.lit (.int .i64 0), .lit (.int .i64 0)]]

/-- 'vendmeterkeep.TokenSlip': WHATEVER THE INPUT: true; the input reads as it did. -/
def tokenSlipSpec : ChangeSpec := { name := "tokenSlip", fn := fun _ => fun
  | [d1, d2, d3] => { results := [.lit (.bool true)], args := [d1, d2, d3] }
  | _ => none }
def tokenSlipRow : OpenClaim := { program := "ytmpjmcfgikmgnabdoor", sum := "fd164fc30ddc67c8d65fa469c3fc64c469937055c2244c8e64122e445ab9a5d8", func := "vendmeter/vendmeterkeep.TokenSlip", spec := "tokenSlip", inPlace := ["internal/abi.NoEscape", "internal/bytealg.MakeNoZero"], unfollowed := true, recurses := true, named := ["vendmeter/token.amounts", "vendmeter/token.places"], apart := false, laid := [("vendmeter/token.places", laid_vendmeter_token_places), ("vendmeter/token.amounts", laid_vendmeter_token_amounts)] }
def TokenSlipSaid : Prop := tokenSlipRow.holds Tryd.pinned (OpenSpec.ofChange tokenSlipSpec)

/-- ITS FALSE NEIGHBOUR: 'it returns false'. Refute it at one input. -/
def tokenSlipWrong : ChangeSpec := { name := "tokenSlip", fn := fun _ => fun
  | [d1, d2, d3] => { results := [.lit (.bool false)], args := [d1, d2, d3] }
  | _ => none }
def TokenSlipWrongFalsely : Prop := tokenSlipRow.holds Tryd.pinned (OpenSpec.ofChange tokenSlipWrong)

/-- 'vendmeterkeep.TokenSwap': WHATEVER THE INPUT: true; the input reads as it did. -/
def tokenSwapSpec : ChangeSpec := { name := "tokenSwap", fn := fun _ => fun
  | [d1, d2, d3] => { results := [.lit (.bool true)], args := [d1, d2, d3] }
  | _ => none }
def tokenSwapRow : OpenClaim := { program := "ytmpjmcfgikmgnabdoor", sum := "fd164fc30ddc67c8d65fa469c3fc64c469937055c2244c8e64122e445ab9a5d8", func := "vendmeter/vendmeterkeep.TokenSwap", spec := "tokenSwap", inPlace := ["internal/abi.NoEscape", "internal/bytealg.MakeNoZero"], unfollowed := true, recurses := true, named := ["vendmeter/token.amounts", "vendmeter/token.places"], apart := false, laid := [("vendmeter/token.places", laid_vendmeter_token_places), ("vendmeter/token.amounts", laid_vendmeter_token_amounts)] }
def TokenSwapSaid : Prop := tokenSwapRow.holds Tryd.pinned (OpenSpec.ofChange tokenSwapSpec)

/-- ITS FALSE NEIGHBOUR: 'it returns false'. Refute it at one input. -/
def tokenSwapWrong : ChangeSpec := { name := "tokenSwap", fn := fun _ => fun
  | [d1, d2, d3] => { results := [.lit (.bool false)], args := [d1, d2, d3] }
  | _ => none }
def TokenSwapWrongFalsely : Prop := tokenSwapRow.holds Tryd.pinned (OpenSpec.ofChange tokenSwapWrong)

/-- 'vendmeterkeep.TokenTwin': WHATEVER THE INPUT: true; the input reads as it did. -/
def tokenTwinSpec : ChangeSpec := { name := "tokenTwin", fn := fun _ => fun
  | [d1, d2, d3] => { results := [.lit (.bool true)], args := [d1, d2, d3] }
  | _ => none }
def tokenTwinRow : OpenClaim := { program := "ytmpjmcfgikmgnabdoor", sum := "fd164fc30ddc67c8d65fa469c3fc64c469937055c2244c8e64122e445ab9a5d8", func := "vendmeter/vendmeterkeep.TokenTwin", spec := "tokenTwin", inPlace := ["internal/abi.NoEscape", "internal/bytealg.MakeNoZero"], unfollowed := true, recurses := true, named := ["vendmeter/token.amounts", "vendmeter/token.places"], apart := false, laid := [("vendmeter/token.places", laid_vendmeter_token_places), ("vendmeter/token.amounts", laid_vendmeter_token_amounts)] }
def TokenTwinSaid : Prop := tokenTwinRow.holds Tryd.pinned (OpenSpec.ofChange tokenTwinSpec)

/-- ITS FALSE NEIGHBOUR: 'it returns false'. Refute it at one input. -/
def tokenTwinWrong : ChangeSpec := { name := "tokenTwin", fn := fun _ => fun
  | [d1, d2, d3] => { results := [.lit (.bool false)], args := [d1, d2, d3] }
  | _ => none }
def TokenTwinWrongFalsely : Prop := tokenTwinRow.holds Tryd.pinned (OpenSpec.ofChange tokenTwinWrong)

/-- 'vendmeterkeep.TokenApart': WHATEVER THE INPUT: true; the input reads as it did. -/
def tokenApartSpec : ChangeSpec := { name := "tokenApart", fn := fun _ => fun
  | [d1, d2] => { results := [.lit (.bool true)], args := [d1, d2] }
  | _ => none }
def tokenApartRow : OpenClaim := { program := "ytmpjmcfgikmgnabdoor", sum := "fd164fc30ddc67c8d65fa469c3fc64c469937055c2244c8e64122e445ab9a5d8", func := "vendmeter/vendmeterkeep.TokenApart", spec := "tokenApart", inPlace := ["internal/abi.NoEscape", "internal/bytealg.MakeNoZero"], unfollowed := true, recurses := true, named := ["vendmeter/token.amounts", "vendmeter/token.places"], apart := false, laid := [("vendmeter/token.places", laid_vendmeter_token_places), ("vendmeter/token.amounts", laid_vendmeter_token_amounts)] }
def TokenApartSaid : Prop := tokenApartRow.holds Tryd.pinned (OpenSpec.ofChange tokenApartSpec)

/-- ITS FALSE NEIGHBOUR: 'it returns false'. Refute it at one input. -/
def tokenApartWrong : ChangeSpec := { name := "tokenApart", fn := fun _ => fun
  | [d1, d2] => { results := [.lit (.bool false)], args := [d1, d2] }
  | _ => none }
def TokenApartWrongFalsely : Prop := tokenApartRow.holds Tryd.pinned (OpenSpec.ofChange tokenApartWrong)

/- THE SECOND FORM. 'bulk': how many values and letters a reading holds, each counted each time it is reached (what is shared counts as often as it is met; a slice's spare places count too). A statement '..UptoSaid' is the law's where the arguments, and the package variables that the reading takes, are together of bulk at most 1048576: NARROWER than '..Said'. Prove '..Said' where nothing that the law and all that it calls make is longer than what came in: it says more and counts as full. Else prove '..UptoSaid'. A law counts once. -/
mutual
def uptoBulk {H : Type} : DataW H → Nat
  | .lit (.string bytes) => bytes.length + 1
  | .lit _ => 1
  | .nil => 1
  | .ptr d => uptoBulk d + 1
  | .slice elems spare => uptoBulkAll elems + uptoBulkAll spare + 1
  | .agg parts => uptoBulkAll parts + 1
  | .iface _ d => uptoBulk d + 1
  | .map entries => uptoBulkEntries entries + 1
  | .held _ => 1
def uptoBulkAll {H : Type} : List (DataW H) → Nat
  | [] => 0
  | d :: r => uptoBulk d + uptoBulkAll r
def uptoBulkEntries {H : Type} : List (Lit × DataW H) → Nat
  | [] => 0
  | x :: r => uptoBulkEntry x + uptoBulkEntries r
def uptoBulkEntry {H : Type} : Lit × DataW H → Nat
  | (.string bytes, d) => bytes.length + uptoBulk d + 1
  | (_, d) => uptoBulk d + 1
 end
def uptoSmall : (H : Type) → List (DataW H) → Bool := fun _ ds => decide (uptoBulkAll ds ≤ 1048576)
def OpenSpec.upto (s : _root_.Go.ChangeSpec) : _root_.Go.OpenSpec := { _root_.Go.OpenSpec.ofChange s with cond := some uptoSmall }

/-- 'vendmeterkeep.TokenSlip', WHERE WHAT IT READS IS OF BULK AT MOST 1048576: true; the input reads as it did. -/
def tokenSlipUptoRow : OpenClaim := { program := "ytmpjmcfgikmgnabdoor", sum := "fd164fc30ddc67c8d65fa469c3fc64c469937055c2244c8e64122e445ab9a5d8", func := "vendmeter/vendmeterkeep.TokenSlip", spec := "tokenSlip", inPlace := ["internal/abi.NoEscape", "internal/bytealg.MakeNoZero"], unfollowed := true, recurses := true, named := ["vendmeter/token.amounts", "vendmeter/token.places"], apart := false, laid := [("vendmeter/token.places", laid_vendmeter_token_places), ("vendmeter/token.amounts", laid_vendmeter_token_amounts)], narrowed := true }
def TokenSlipUptoSaid : Prop := tokenSlipUptoRow.holds Tryd.pinned (OpenSpec.upto tokenSlipSpec)

/-- 'vendmeterkeep.TokenSwap', WHERE WHAT IT READS IS OF BULK AT MOST 1048576: true; the input reads as it did. -/
def tokenSwapUptoRow : OpenClaim := { program := "ytmpjmcfgikmgnabdoor", sum := "fd164fc30ddc67c8d65fa469c3fc64c469937055c2244c8e64122e445ab9a5d8", func := "vendmeter/vendmeterkeep.TokenSwap", spec := "tokenSwap", inPlace := ["internal/abi.NoEscape", "internal/bytealg.MakeNoZero"], unfollowed := true, recurses := true, named := ["vendmeter/token.amounts", "vendmeter/token.places"], apart := false, laid := [("vendmeter/token.places", laid_vendmeter_token_places), ("vendmeter/token.amounts", laid_vendmeter_token_amounts)], narrowed := true }
def TokenSwapUptoSaid : Prop := tokenSwapUptoRow.holds Tryd.pinned (OpenSpec.upto tokenSwapSpec)

/-- 'vendmeterkeep.TokenTwin', WHERE WHAT IT READS IS OF BULK AT MOST 1048576: true; the input reads as it did. -/
def tokenTwinUptoRow : OpenClaim := { program := "ytmpjmcfgikmgnabdoor", sum := "fd164fc30ddc67c8d65fa469c3fc64c469937055c2244c8e64122e445ab9a5d8", func := "vendmeter/vendmeterkeep.TokenTwin", spec := "tokenTwin", inPlace := ["internal/abi.NoEscape", "internal/bytealg.MakeNoZero"], unfollowed := true, recurses := true, named := ["vendmeter/token.amounts", "vendmeter/token.places"], apart := false, laid := [("vendmeter/token.places", laid_vendmeter_token_places), ("vendmeter/token.amounts", laid_vendmeter_token_amounts)], narrowed := true }
def TokenTwinUptoSaid : Prop := tokenTwinUptoRow.holds Tryd.pinned (OpenSpec.upto tokenTwinSpec)

/-- 'vendmeterkeep.TokenApart', WHERE WHAT IT READS IS OF BULK AT MOST 1048576: true; the input reads as it did. -/
def tokenApartUptoRow : OpenClaim := { program := "ytmpjmcfgikmgnabdoor", sum := "fd164fc30ddc67c8d65fa469c3fc64c469937055c2244c8e64122e445ab9a5d8", func := "vendmeter/vendmeterkeep.TokenApart", spec := "tokenApart", inPlace := ["internal/abi.NoEscape", "internal/bytealg.MakeNoZero"], unfollowed := true, recurses := true, named := ["vendmeter/token.amounts", "vendmeter/token.places"], apart := false, laid := [("vendmeter/token.places", laid_vendmeter_token_places), ("vendmeter/token.amounts", laid_vendmeter_token_amounts)], narrowed := true }
def TokenApartUptoSaid : Prop := tokenApartUptoRow.holds Tryd.pinned (OpenSpec.upto tokenApartSpec)

end Rows
end Go.Proofs.YtmpjmcfgikmgnabDoor
