/-
  No cell of these rows narrows 'for every input' (looked for: loops, veiled, ifaces, maps, wideKeys, modest, calm, conditions, laid).
  DERIVED. THE GIVEN ROWS OF THIS SEAT. 3 by the template 'for every input the law returns true; each argument reads behind the call as it read before'; 0 by the template 'total and deterministic' (their statements: YtkhiipohdiibeaaTotals.lean).
  GIVEN WITH THE SEED: the statements are not yours to turn. If you find one false, say at which input.
  Laid BY PROGRAM, IN A SANDBOX (cutbox-rows.mjs): the forced cells as the released guide's own fill.sh prints them over the translation a7220d1a8f5dbbbe… (all of the seat's roots in one cut). By AI agents, Wed Nov 11 2026. No macro, syntax, notation, axiom, sorry.
-/
import Derived.Test.YtkhiipohdiibeaaChecked
import GoSem.Claim
import GoSem.ClaimJoined
import GoSem.ClaimMapViews
import Derived.JoinedTies
import Derived.KernelRfl
namespace Go.Proofs.Ytkhiipohdiibeaa
/- THE CELL 'sum', in the pinned program and in every row, IS THE sha256 OF THE DUMP (.gsa) THAT YtkhiipohdiibeaaProg.lean LOADS. Nothing in Lean hashes anything: it is a label: what it is worth is what the hold of that sum in a sandbox is worth. -/
noncomputable def Try.pinned : Pinned := { name := "ytkhiipohdiibeaa", sum := "a7220d1a8f5dbbbea9a67279ea0174752f4329f2ad5cf9e321fb9b332bc591ba", checked := Try.checked }
namespace Rows
def none {H : Type} : Left H := { results := [], args := [] }

/-- 'vendmeterlaw.WordsCmps': WHATEVER THE INPUT: true; the input reads as it did. -/
def wordsCmpsSpec : ChangeSpec := { name := "wordsCmps", fn := fun _ => fun
  | [d1, d2] => { results := [.lit (.bool true)], args := [d1, d2] }
  | _ => none }
def wordsCmpsRow : OpenClaim := { program := "ytkhiipohdiibeaa", sum := "a7220d1a8f5dbbbea9a67279ea0174752f4329f2ad5cf9e321fb9b332bc591ba", func := "vendmeter/vendmeterlaw.WordsCmps", spec := "wordsCmps", apart := false }
def WordsCmpsSaid : Prop := wordsCmpsRow.holds Try.pinned (OpenSpec.ofChange wordsCmpsSpec)

/-- ITS FALSE NEIGHBOUR: 'it returns false'. Refute it at one input. -/
def wordsCmpsWrong : ChangeSpec := { name := "wordsCmps", fn := fun _ => fun
  | [d1, d2] => { results := [.lit (.bool false)], args := [d1, d2] }
  | _ => none }
def WordsCmpsWrongFalsely : Prop := wordsCmpsRow.holds Try.pinned (OpenSpec.ofChange wordsCmpsWrong)

/-- 'vendmeterlaw.WordsShows': WHATEVER THE INPUT: true; the input reads as it did. -/
def wordsShowsSpec : ChangeSpec := { name := "wordsShows", fn := fun _ => fun
  | [d] => { results := [.lit (.bool true)], args := [d] }
  | _ => none }
def wordsShowsRow : OpenClaim := { program := "ytkhiipohdiibeaa", sum := "a7220d1a8f5dbbbea9a67279ea0174752f4329f2ad5cf9e321fb9b332bc591ba", func := "vendmeter/vendmeterlaw.WordsShows", spec := "wordsShows", unfollowed := true, recurses := true, apart := false }
def WordsShowsSaid : Prop := wordsShowsRow.holds Try.pinned (OpenSpec.ofChange wordsShowsSpec)

/-- ITS FALSE NEIGHBOUR: 'it returns false'. Refute it at one input. -/
def wordsShowsWrong : ChangeSpec := { name := "wordsShows", fn := fun _ => fun
  | [d] => { results := [.lit (.bool false)], args := [d] }
  | _ => none }
def WordsShowsWrongFalsely : Prop := wordsShowsRow.holds Try.pinned (OpenSpec.ofChange wordsShowsWrong)

/-- 'vendmeterkeep.WideBack': WHATEVER THE INPUT: true; the input reads as it did. -/
def wideBackSpec : ChangeSpec := { name := "wideBack", fn := fun _ => fun
  | [d] => { results := [.lit (.bool true)], args := [d] }
  | _ => none }
def wideBackRow : OpenClaim := { program := "ytkhiipohdiibeaa", sum := "a7220d1a8f5dbbbea9a67279ea0174752f4329f2ad5cf9e321fb9b332bc591ba", func := "vendmeter/vendmeterkeep.WideBack", spec := "wideBack", unfollowed := true, recurses := true, apart := false }
def WideBackSaid : Prop := wideBackRow.holds Try.pinned (OpenSpec.ofChange wideBackSpec)

/-- ITS FALSE NEIGHBOUR: 'it returns false'. Refute it at one input. -/
def wideBackWrong : ChangeSpec := { name := "wideBack", fn := fun _ => fun
  | [d] => { results := [.lit (.bool false)], args := [d] }
  | _ => none }
def WideBackWrongFalsely : Prop := wideBackRow.holds Try.pinned (OpenSpec.ofChange wideBackWrong)

/- THE SECOND FORM. 'bulk': how many values and letters a reading holds, each counted each time it is reached (what is shared counts as often as it is met; a slice's spare places count too). A statement '..UptoSaid' is the law's where the arguments, and the package variables that the reading takes, are together of bulk at most 1048576: NARROWER than '..Said'. Prove '..Said' where nothing that the law and all that it calls make is longer than what came in: it says more and counts as full. Else prove '..UptoSaid'. A law counts once. -/
mutual
def uptoBulk {H : Type} : DataW H → Nat
  | .lit (.string bytes) => bytes.length + 1
  | .lit _ => 1
  | .nil => 1
  | .ptr d => uptoBulk d + 1
  | .slice elems spare => uptoBulkAll elems + uptoBulkAll spare + 1
  | .agg parts => uptoBulkAll parts + 1
  | .iface _ d => uptoBulk d + 1
  | .map entries => uptoBulkEntries entries + 1
  | .held _ => 1
def uptoBulkAll {H : Type} : List (DataW H) → Nat
  | [] => 0
  | d :: r => uptoBulk d + uptoBulkAll r
def uptoBulkEntries {H : Type} : List (Lit × DataW H) → Nat
  | [] => 0
  | x :: r => uptoBulkEntry x + uptoBulkEntries r
def uptoBulkEntry {H : Type} : Lit × DataW H → Nat
  | (.string bytes, d) => bytes.length + uptoBulk d + 1
  | (_, d) => uptoBulk d + 1
 end
def uptoSmall : (H : Type) → List (DataW H) → Bool := fun _ ds => decide (uptoBulkAll ds ≤ 1048576)
def OpenSpec.upto (s : _root_.Go.ChangeSpec) : _root_.Go.OpenSpec := { _root_.Go.OpenSpec.ofChange s with cond := some uptoSmall }

/-- 'vendmeterlaw.WordsCmps', WHERE WHAT IT READS IS OF BULK AT MOST 1048576: true; the input reads as it did. -/
def wordsCmpsUptoRow : OpenClaim := { program := "ytkhiipohdiibeaa", sum := "a7220d1a8f5dbbbea9a67279ea0174752f4329f2ad5cf9e321fb9b332bc591ba", func := "vendmeter/vendmeterlaw.WordsCmps", spec := "wordsCmps", apart := false, narrowed := true }
def WordsCmpsUptoSaid : Prop := wordsCmpsUptoRow.holds Try.pinned (OpenSpec.upto wordsCmpsSpec)

/-- 'vendmeterlaw.WordsShows', WHERE WHAT IT READS IS OF BULK AT MOST 1048576: true; the input reads as it did. -/
def wordsShowsUptoRow : OpenClaim := { program := "ytkhiipohdiibeaa", sum := "a7220d1a8f5dbbbea9a67279ea0174752f4329f2ad5cf9e321fb9b332bc591ba", func := "vendmeter/vendmeterlaw.WordsShows", spec := "wordsShows", unfollowed := true, recurses := true, apart := false, narrowed := true }
def WordsShowsUptoSaid : Prop := wordsShowsUptoRow.holds Try.pinned (OpenSpec.upto wordsShowsSpec)

/-- 'vendmeterkeep.WideBack', WHERE WHAT IT READS IS OF BULK AT MOST 1048576: true; the input reads as it did. -/
def wideBackUptoRow : OpenClaim := { program := "ytkhiipohdiibeaa", sum := "a7220d1a8f5dbbbea9a67279ea0174752f4329f2ad5cf9e321fb9b332bc591ba", func := "vendmeter/vendmeterkeep.WideBack", spec := "wideBack", unfollowed := true, recurses := true, apart := false, narrowed := true }
def WideBackUptoSaid : Prop := wideBackUptoRow.holds Try.pinned (OpenSpec.upto wideBackSpec)

end Rows
end Go.Proofs.Ytkhiipohdiibeaa
