/-
  NARROWER THAN 'FOR EVERY INPUT', by the rows' own cells (each row's printed sentence says how): TokenBodies: laid · TokenNumbers: laid · TokenFormats: laid · TokenParses: laid · TokenBack: laid · TokenFixed: laid.
  DERIVED. THE GIVEN ROWS OF THIS SEAT. 6 by the template 'for every input the law returns true; each argument reads behind the call as it read before'; 0 by the template 'total and deterministic' (their statements: YtmpjmcfgikmgnaaDoorTotals.lean).
  GIVEN WITH THE SEED: the statements are not yours to turn. If you find one false, say at which input.
  Laid BY PROGRAM, IN A SANDBOX (cutbox-rows.mjs): the forced cells as the released guide's own fill.sh prints them over the translation e5a89e6a9db4f223… (all of the seat's roots in one cut). By AI agents, Wed Nov 11 2026. No macro, syntax, notation, axiom, sorry.
-/
import Derived.Test.YtmpjmcfgikmgnaaDoorChecked
import GoSem.Claim
import GoSem.ClaimJoined
import GoSem.ClaimMapViews
import Derived.JoinedTies
import Derived.KernelRfl
namespace Go.Proofs.YtmpjmcfgikmgnaaDoor
/- THE CELL 'sum', in the pinned program and in every row, IS THE sha256 OF THE DUMP (.gsa) THAT YtmpjmcfgikmgnaaDoorProg.lean LOADS. Nothing in Lean hashes anything: it is a label: what it is worth is what the hold of that sum in a sandbox is worth. -/
noncomputable def Tryd.pinned : Pinned := { name := "ytmpjmcfgikmgnaadoor", sum := "e5a89e6a9db4f223c7c452d7509f032ce19a3a84182c4d4012ed0f2b3b483239", checked := Tryd.checked }
namespace Rows
def none {H : Type} : Left H := { results := [], args := [] }

/- WHAT THE LISTED PACKAGE-LEVEL VARIABLES READ AS WHEN THE CALL BEGINS. Each datum BY PROGRAM (the guide's laid-datum.mjs) off the statement by which the dump's own 'gosem.cut.vars' lays the variable. In a bare row this is a premise. The card (YtmpjmcfgikmgnaaDoorCards.lean) ties it to the program's text. -/
def laid_vendmeter_token_places {H : Type} : DataW H := .agg [.agg [.lit (.int .i64 57), .lit (.int .i64 3)], .agg [.lit (.int .i64 37), .lit (.int .i64 20)], .agg [.lit (.int .i64 16), .lit (.int .i64 21)], .agg [.lit (.int .i64 0), .lit (.int .i64 16)]]
def laid_vendmeter_token_amounts {H : Type} : DataW H := .agg [.agg [.lit (.int .i64 1), .lit (.int .i64 2097151)], .agg [.lit (.int .i64 0), .lit (.int .i64 0)], .agg [.lit (.int .i64 1), .lit (.int .i64 15)], .agg [.lit (.int .i64 0), .lit (.int .i64 0)]]

/-- 'vendmeterlaw.TokenBodies': WHATEVER THE INPUT: true; the input reads as it did. -/
def tokenBodiesSpec : ChangeSpec := { name := "tokenBodies", fn := fun _ => fun
  | [d] => { results := [.lit (.bool true)], args := [d] }
  | _ => none }
def tokenBodiesRow : OpenClaim := { program := "ytmpjmcfgikmgnaadoor", sum := "e5a89e6a9db4f223c7c452d7509f032ce19a3a84182c4d4012ed0f2b3b483239", func := "vendmeter/vendmeterlaw.TokenBodies", spec := "tokenBodies", unfollowed := true, recurses := true, named := ["vendmeter/token.amounts", "vendmeter/token.places"], apart := false, laid := [("vendmeter/token.places", laid_vendmeter_token_places), ("vendmeter/token.amounts", laid_vendmeter_token_amounts)] }
def TokenBodiesSaid : Prop := tokenBodiesRow.holds Tryd.pinned (OpenSpec.ofChange tokenBodiesSpec)

/-- ITS FALSE NEIGHBOUR: 'it returns false'. Refute it at one input. -/
def tokenBodiesWrong : ChangeSpec := { name := "tokenBodies", fn := fun _ => fun
  | [d] => { results := [.lit (.bool false)], args := [d] }
  | _ => none }
def TokenBodiesWrongFalsely : Prop := tokenBodiesRow.holds Tryd.pinned (OpenSpec.ofChange tokenBodiesWrong)

/-- 'vendmeterlaw.TokenNumbers': WHATEVER THE INPUT: true; the input reads as it did. -/
def tokenNumbersSpec : ChangeSpec := { name := "tokenNumbers", fn := fun _ => fun
  | [d] => { results := [.lit (.bool true)], args := [d] }
  | _ => none }
def tokenNumbersRow : OpenClaim := { program := "ytmpjmcfgikmgnaadoor", sum := "e5a89e6a9db4f223c7c452d7509f032ce19a3a84182c4d4012ed0f2b3b483239", func := "vendmeter/vendmeterlaw.TokenNumbers", spec := "tokenNumbers", unfollowed := true, recurses := true, named := ["vendmeter/token.amounts", "vendmeter/token.places"], apart := false, laid := [("vendmeter/token.places", laid_vendmeter_token_places), ("vendmeter/token.amounts", laid_vendmeter_token_amounts)] }
def TokenNumbersSaid : Prop := tokenNumbersRow.holds Tryd.pinned (OpenSpec.ofChange tokenNumbersSpec)

/-- ITS FALSE NEIGHBOUR: 'it returns false'. Refute it at one input. -/
def tokenNumbersWrong : ChangeSpec := { name := "tokenNumbers", fn := fun _ => fun
  | [d] => { results := [.lit (.bool false)], args := [d] }
  | _ => none }
def TokenNumbersWrongFalsely : Prop := tokenNumbersRow.holds Tryd.pinned (OpenSpec.ofChange tokenNumbersWrong)

/-- 'vendmeterlaw.TokenFormats': WHATEVER THE INPUT: true; the input reads as it did. -/
def tokenFormatsSpec : ChangeSpec := { name := "tokenFormats", fn := fun _ => fun
  | [d] => { results := [.lit (.bool true)], args := [d] }
  | _ => none }
def tokenFormatsRow : OpenClaim := { program := "ytmpjmcfgikmgnaadoor", sum := "e5a89e6a9db4f223c7c452d7509f032ce19a3a84182c4d4012ed0f2b3b483239", func := "vendmeter/vendmeterlaw.TokenFormats", spec := "tokenFormats", inPlace := ["internal/abi.NoEscape", "internal/bytealg.MakeNoZero"], unfollowed := true, recurses := true, named := ["vendmeter/token.amounts", "vendmeter/token.places"], apart := false, laid := [("vendmeter/token.places", laid_vendmeter_token_places), ("vendmeter/token.amounts", laid_vendmeter_token_amounts)] }
def TokenFormatsSaid : Prop := tokenFormatsRow.holds Tryd.pinned (OpenSpec.ofChange tokenFormatsSpec)

/-- ITS FALSE NEIGHBOUR: 'it returns false'. Refute it at one input. -/
def tokenFormatsWrong : ChangeSpec := { name := "tokenFormats", fn := fun _ => fun
  | [d] => { results := [.lit (.bool false)], args := [d] }
  | _ => none }
def TokenFormatsWrongFalsely : Prop := tokenFormatsRow.holds Tryd.pinned (OpenSpec.ofChange tokenFormatsWrong)

/-- 'vendmeterlaw.TokenParses': WHATEVER THE INPUT: true; the input reads as it did. -/
def tokenParsesSpec : ChangeSpec := { name := "tokenParses", fn := fun _ => fun
  | [d] => { results := [.lit (.bool true)], args := [d] }
  | _ => none }
def tokenParsesRow : OpenClaim := { program := "ytmpjmcfgikmgnaadoor", sum := "e5a89e6a9db4f223c7c452d7509f032ce19a3a84182c4d4012ed0f2b3b483239", func := "vendmeter/vendmeterlaw.TokenParses", spec := "tokenParses", unfollowed := true, recurses := true, named := ["vendmeter/token.places", "vendmeter/token.amounts"], apart := false, laid := [("vendmeter/token.places", laid_vendmeter_token_places), ("vendmeter/token.amounts", laid_vendmeter_token_amounts)] }
def TokenParsesSaid : Prop := tokenParsesRow.holds Tryd.pinned (OpenSpec.ofChange tokenParsesSpec)

/-- ITS FALSE NEIGHBOUR: 'it returns false'. Refute it at one input. -/
def tokenParsesWrong : ChangeSpec := { name := "tokenParses", fn := fun _ => fun
  | [d] => { results := [.lit (.bool false)], args := [d] }
  | _ => none }
def TokenParsesWrongFalsely : Prop := tokenParsesRow.holds Tryd.pinned (OpenSpec.ofChange tokenParsesWrong)

/-- 'vendmeterkeep.TokenBack': WHATEVER THE INPUT: true; the input reads as it did. -/
def tokenBackSpec : ChangeSpec := { name := "tokenBack", fn := fun _ => fun
  | [d] => { results := [.lit (.bool true)], args := [d] }
  | _ => none }
def tokenBackRow : OpenClaim := { program := "ytmpjmcfgikmgnaadoor", sum := "e5a89e6a9db4f223c7c452d7509f032ce19a3a84182c4d4012ed0f2b3b483239", func := "vendmeter/vendmeterkeep.TokenBack", spec := "tokenBack", inPlace := ["internal/abi.NoEscape", "internal/bytealg.MakeNoZero"], unfollowed := true, recurses := true, named := ["vendmeter/token.amounts", "vendmeter/token.places"], apart := false, laid := [("vendmeter/token.places", laid_vendmeter_token_places), ("vendmeter/token.amounts", laid_vendmeter_token_amounts)] }
def TokenBackSaid : Prop := tokenBackRow.holds Tryd.pinned (OpenSpec.ofChange tokenBackSpec)

/-- ITS FALSE NEIGHBOUR: 'it returns false'. Refute it at one input. -/
def tokenBackWrong : ChangeSpec := { name := "tokenBack", fn := fun _ => fun
  | [d] => { results := [.lit (.bool false)], args := [d] }
  | _ => none }
def TokenBackWrongFalsely : Prop := tokenBackRow.holds Tryd.pinned (OpenSpec.ofChange tokenBackWrong)

/-- 'vendmeterkeep.TokenFixed': WHATEVER THE INPUT: true; the input reads as it did. -/
def tokenFixedSpec : ChangeSpec := { name := "tokenFixed", fn := fun _ => fun
  | [d] => { results := [.lit (.bool true)], args := [d] }
  | _ => none }
def tokenFixedRow : OpenClaim := { program := "ytmpjmcfgikmgnaadoor", sum := "e5a89e6a9db4f223c7c452d7509f032ce19a3a84182c4d4012ed0f2b3b483239", func := "vendmeter/vendmeterkeep.TokenFixed", spec := "tokenFixed", inPlace := ["internal/abi.NoEscape", "internal/bytealg.MakeNoZero"], unfollowed := true, recurses := true, named := ["vendmeter/token.places", "vendmeter/token.amounts"], apart := false, laid := [("vendmeter/token.places", laid_vendmeter_token_places), ("vendmeter/token.amounts", laid_vendmeter_token_amounts)] }
def TokenFixedSaid : Prop := tokenFixedRow.holds Tryd.pinned (OpenSpec.ofChange tokenFixedSpec)

/-- ITS FALSE NEIGHBOUR: 'it returns false'. Refute it at one input. -/
def tokenFixedWrong : ChangeSpec := { name := "tokenFixed", fn := fun _ => fun
  | [d] => { results := [.lit (.bool false)], args := [d] }
  | _ => none }
def TokenFixedWrongFalsely : Prop := tokenFixedRow.holds Tryd.pinned (OpenSpec.ofChange tokenFixedWrong)

/- THE SECOND FORM. 'bulk': how many values and letters a reading holds, each counted each time it is reached (what is shared counts as often as it is met; a slice's spare places count too). A statement '..UptoSaid' is the law's where the arguments, and the package variables that the reading takes, are together of bulk at most 1048576: NARROWER than '..Said'. Prove '..Said' where nothing that the law and all that it calls make is longer than what came in: it says more and counts as full. Else prove '..UptoSaid'. A law counts once. -/
mutual
def uptoBulk {H : Type} : DataW H → Nat
  | .lit (.string bytes) => bytes.length + 1
  | .lit _ => 1
  | .nil => 1
  | .ptr d => uptoBulk d + 1
  | .slice elems spare => uptoBulkAll elems + uptoBulkAll spare + 1
  | .agg parts => uptoBulkAll parts + 1
  | .iface _ d => uptoBulk d + 1
  | .map entries => uptoBulkEntries entries + 1
  | .held _ => 1
def uptoBulkAll {H : Type} : List (DataW H) → Nat
  | [] => 0
  | d :: r => uptoBulk d + uptoBulkAll r
def uptoBulkEntries {H : Type} : List (Lit × DataW H) → Nat
  | [] => 0
  | x :: r => uptoBulkEntry x + uptoBulkEntries r
def uptoBulkEntry {H : Type} : Lit × DataW H → Nat
  | (.string bytes, d) => bytes.length + uptoBulk d + 1
  | (_, d) => uptoBulk d + 1
 end
def uptoSmall : (H : Type) → List (DataW H) → Bool := fun _ ds => decide (uptoBulkAll ds ≤ 1048576)
def OpenSpec.upto (s : _root_.Go.ChangeSpec) : _root_.Go.OpenSpec := { _root_.Go.OpenSpec.ofChange s with cond := some uptoSmall }

/-- 'vendmeterlaw.TokenBodies', WHERE WHAT IT READS IS OF BULK AT MOST 1048576: true; the input reads as it did. -/
def tokenBodiesUptoRow : OpenClaim := { program := "ytmpjmcfgikmgnaadoor", sum := "e5a89e6a9db4f223c7c452d7509f032ce19a3a84182c4d4012ed0f2b3b483239", func := "vendmeter/vendmeterlaw.TokenBodies", spec := "tokenBodies", unfollowed := true, recurses := true, named := ["vendmeter/token.amounts", "vendmeter/token.places"], apart := false, laid := [("vendmeter/token.places", laid_vendmeter_token_places), ("vendmeter/token.amounts", laid_vendmeter_token_amounts)], narrowed := true }
def TokenBodiesUptoSaid : Prop := tokenBodiesUptoRow.holds Tryd.pinned (OpenSpec.upto tokenBodiesSpec)

/-- 'vendmeterlaw.TokenNumbers', WHERE WHAT IT READS IS OF BULK AT MOST 1048576: true; the input reads as it did. -/
def tokenNumbersUptoRow : OpenClaim := { program := "ytmpjmcfgikmgnaadoor", sum := "e5a89e6a9db4f223c7c452d7509f032ce19a3a84182c4d4012ed0f2b3b483239", func := "vendmeter/vendmeterlaw.TokenNumbers", spec := "tokenNumbers", unfollowed := true, recurses := true, named := ["vendmeter/token.amounts", "vendmeter/token.places"], apart := false, laid := [("vendmeter/token.places", laid_vendmeter_token_places), ("vendmeter/token.amounts", laid_vendmeter_token_amounts)], narrowed := true }
def TokenNumbersUptoSaid : Prop := tokenNumbersUptoRow.holds Tryd.pinned (OpenSpec.upto tokenNumbersSpec)

/-- 'vendmeterlaw.TokenFormats', WHERE WHAT IT READS IS OF BULK AT MOST 1048576: true; the input reads as it did. -/
def tokenFormatsUptoRow : OpenClaim := { program := "ytmpjmcfgikmgnaadoor", sum := "e5a89e6a9db4f223c7c452d7509f032ce19a3a84182c4d4012ed0f2b3b483239", func := "vendmeter/vendmeterlaw.TokenFormats", spec := "tokenFormats", inPlace := ["internal/abi.NoEscape", "internal/bytealg.MakeNoZero"], unfollowed := true, recurses := true, named := ["vendmeter/token.amounts", "vendmeter/token.places"], apart := false, laid := [("vendmeter/token.places", laid_vendmeter_token_places), ("vendmeter/token.amounts", laid_vendmeter_token_amounts)], narrowed := true }
def TokenFormatsUptoSaid : Prop := tokenFormatsUptoRow.holds Tryd.pinned (OpenSpec.upto tokenFormatsSpec)

/-- 'vendmeterlaw.TokenParses', WHERE WHAT IT READS IS OF BULK AT MOST 1048576: true; the input reads as it did. -/
def tokenParsesUptoRow : OpenClaim := { program := "ytmpjmcfgikmgnaadoor", sum := "e5a89e6a9db4f223c7c452d7509f032ce19a3a84182c4d4012ed0f2b3b483239", func := "vendmeter/vendmeterlaw.TokenParses", spec := "tokenParses", unfollowed := true, recurses := true, named := ["vendmeter/token.places", "vendmeter/token.amounts"], apart := false, laid := [("vendmeter/token.places", laid_vendmeter_token_places), ("vendmeter/token.amounts", laid_vendmeter_token_amounts)], narrowed := true }
def TokenParsesUptoSaid : Prop := tokenParsesUptoRow.holds Tryd.pinned (OpenSpec.upto tokenParsesSpec)

/-- 'vendmeterkeep.TokenBack', WHERE WHAT IT READS IS OF BULK AT MOST 1048576: true; the input reads as it did. -/
def tokenBackUptoRow : OpenClaim := { program := "ytmpjmcfgikmgnaadoor", sum := "e5a89e6a9db4f223c7c452d7509f032ce19a3a84182c4d4012ed0f2b3b483239", func := "vendmeter/vendmeterkeep.TokenBack", spec := "tokenBack", inPlace := ["internal/abi.NoEscape", "internal/bytealg.MakeNoZero"], unfollowed := true, recurses := true, named := ["vendmeter/token.amounts", "vendmeter/token.places"], apart := false, laid := [("vendmeter/token.places", laid_vendmeter_token_places), ("vendmeter/token.amounts", laid_vendmeter_token_amounts)], narrowed := true }
def TokenBackUptoSaid : Prop := tokenBackUptoRow.holds Tryd.pinned (OpenSpec.upto tokenBackSpec)

/-- 'vendmeterkeep.TokenFixed', WHERE WHAT IT READS IS OF BULK AT MOST 1048576: true; the input reads as it did. -/
def tokenFixedUptoRow : OpenClaim := { program := "ytmpjmcfgikmgnaadoor", sum := "e5a89e6a9db4f223c7c452d7509f032ce19a3a84182c4d4012ed0f2b3b483239", func := "vendmeter/vendmeterkeep.TokenFixed", spec := "tokenFixed", inPlace := ["internal/abi.NoEscape", "internal/bytealg.MakeNoZero"], unfollowed := true, recurses := true, named := ["vendmeter/token.places", "vendmeter/token.amounts"], apart := false, laid := [("vendmeter/token.places", laid_vendmeter_token_places), ("vendmeter/token.amounts", laid_vendmeter_token_amounts)], narrowed := true }
def TokenFixedUptoSaid : Prop := tokenFixedUptoRow.holds Tryd.pinned (OpenSpec.upto tokenFixedSpec)

end Rows
end Go.Proofs.YtmpjmcfgikmgnaaDoor
