/-
  No cell of these rows narrows 'for every input' (looked for: loops, veiled, ifaces, maps, wideKeys, modest, calm, conditions, laid).
  DERIVED. THE GIVEN ROWS OF THIS SEAT. 3 by the template 'for every input the law returns true; each argument reads behind the call as it read before'; 0 by the template 'total and deterministic' (their statements: YtgipkpkjoicehaaTotals.lean).
  GIVEN WITH THE SEED: the statements are not yours to turn. If you find one false, say at which input.
  Laid BY PROGRAM, IN A SANDBOX (cutbox-rows.mjs): the forced cells as the released guide's own fill.sh prints them over the translation 58bab097b6020e18… (all of the seat's roots in one cut). By AI agents, Wed Nov 11 2026. No macro, syntax, notation, axiom, sorry.
-/
import Derived.Test.YtgipkpkjoicehaaChecked
import GoSem.Claim
import GoSem.ClaimJoined
import GoSem.ClaimMapViews
import Derived.JoinedTies
import Derived.KernelRfl
namespace Go.Proofs.Ytgipkpkjoicehaa
/- THE CELL 'sum', in the pinned program and in every row, IS THE sha256 OF THE DUMP (.gsa) THAT YtgipkpkjoicehaaProg.lean LOADS. Nothing in Lean hashes anything: it is a label: what it is worth is what the hold of that sum in a sandbox is worth. -/
noncomputable def Try.pinned : Pinned := { name := "ytgipkpkjoicehaa", sum := "58bab097b6020e185e424982425017cd5a696e974ae0b490f4679d2fc3f89324", checked := Try.checked }
namespace Rows
def none {H : Type} : Left H := { results := [], args := [] }

/-- 'vendmeterlaw.PocketMakes': WHATEVER THE INPUT: true; the input reads as it did. -/
def pocketMakesSpec : ChangeSpec := { name := "pocketMakes", fn := fun _ => fun
  | [d] => { results := [.lit (.bool true)], args := [d] }
  | _ => none }
def pocketMakesRow : OpenClaim := { program := "ytgipkpkjoicehaa", sum := "58bab097b6020e185e424982425017cd5a696e974ae0b490f4679d2fc3f89324", func := "vendmeter/vendmeterlaw.PocketMakes", spec := "pocketMakes", apart := false }
def PocketMakesSaid : Prop := pocketMakesRow.holds Try.pinned (OpenSpec.ofChange pocketMakesSpec)

/-- ITS FALSE NEIGHBOUR: 'it returns false'. Refute it at one input. -/
def pocketMakesWrong : ChangeSpec := { name := "pocketMakes", fn := fun _ => fun
  | [d] => { results := [.lit (.bool false)], args := [d] }
  | _ => none }
def PocketMakesWrongFalsely : Prop := pocketMakesRow.holds Try.pinned (OpenSpec.ofChange pocketMakesWrong)

/-- 'vendmeterlaw.PocketBoots': WHATEVER THE INPUT: true; the input reads as it did. -/
def pocketBootsSpec : ChangeSpec := { name := "pocketBoots", fn := fun _ => fun
  | [d] => { results := [.lit (.bool true)], args := [d] }
  | _ => none }
def pocketBootsRow : OpenClaim := { program := "ytgipkpkjoicehaa", sum := "58bab097b6020e185e424982425017cd5a696e974ae0b490f4679d2fc3f89324", func := "vendmeter/vendmeterlaw.PocketBoots", spec := "pocketBoots", unfollowed := true, recurses := true, apart := false }
def PocketBootsSaid : Prop := pocketBootsRow.holds Try.pinned (OpenSpec.ofChange pocketBootsSpec)

/-- ITS FALSE NEIGHBOUR: 'it returns false'. Refute it at one input. -/
def pocketBootsWrong : ChangeSpec := { name := "pocketBoots", fn := fun _ => fun
  | [d] => { results := [.lit (.bool false)], args := [d] }
  | _ => none }
def PocketBootsWrongFalsely : Prop := pocketBootsRow.holds Try.pinned (OpenSpec.ofChange pocketBootsWrong)

/-- 'vendmeterlaw.PocketTicks': WHATEVER THE INPUT: true; the input reads as it did. -/
def pocketTicksSpec : ChangeSpec := { name := "pocketTicks", fn := fun _ => fun
  | [d1, d2] => { results := [.lit (.bool true)], args := [d1, d2] }
  | _ => none }
def pocketTicksRow : OpenClaim := { program := "ytgipkpkjoicehaa", sum := "58bab097b6020e185e424982425017cd5a696e974ae0b490f4679d2fc3f89324", func := "vendmeter/vendmeterlaw.PocketTicks", spec := "pocketTicks", unfollowed := true, recurses := true, apart := false }
def PocketTicksSaid : Prop := pocketTicksRow.holds Try.pinned (OpenSpec.ofChange pocketTicksSpec)

/-- ITS FALSE NEIGHBOUR: 'it returns false'. Refute it at one input. -/
def pocketTicksWrong : ChangeSpec := { name := "pocketTicks", fn := fun _ => fun
  | [d1, d2] => { results := [.lit (.bool false)], args := [d1, d2] }
  | _ => none }
def PocketTicksWrongFalsely : Prop := pocketTicksRow.holds Try.pinned (OpenSpec.ofChange pocketTicksWrong)

/- THE SECOND FORM. 'bulk': how many values and letters a reading holds, each counted each time it is reached (what is shared counts as often as it is met; a slice's spare places count too). A statement '..UptoSaid' is the law's where the arguments, and the package variables that the reading takes, are together of bulk at most 1048576: NARROWER than '..Said'. Prove '..Said' where nothing that the law and all that it calls make is longer than what came in: it says more and counts as full. Else prove '..UptoSaid'. A law counts once. -/
mutual
def uptoBulk {H : Type} : DataW H → Nat
  | .lit (.string bytes) => bytes.length + 1
  | .lit _ => 1
  | .nil => 1
  | .ptr d => uptoBulk d + 1
  | .slice elems spare => uptoBulkAll elems + uptoBulkAll spare + 1
  | .agg parts => uptoBulkAll parts + 1
  | .iface _ d => uptoBulk d + 1
  | .map entries => uptoBulkEntries entries + 1
  | .held _ => 1
def uptoBulkAll {H : Type} : List (DataW H) → Nat
  | [] => 0
  | d :: r => uptoBulk d + uptoBulkAll r
def uptoBulkEntries {H : Type} : List (Lit × DataW H) → Nat
  | [] => 0
  | x :: r => uptoBulkEntry x + uptoBulkEntries r
def uptoBulkEntry {H : Type} : Lit × DataW H → Nat
  | (.string bytes, d) => bytes.length + uptoBulk d + 1
  | (_, d) => uptoBulk d + 1
 end
def uptoSmall : (H : Type) → List (DataW H) → Bool := fun _ ds => decide (uptoBulkAll ds ≤ 1048576)
def OpenSpec.upto (s : _root_.Go.ChangeSpec) : _root_.Go.OpenSpec := { _root_.Go.OpenSpec.ofChange s with cond := some uptoSmall }

/-- 'vendmeterlaw.PocketMakes', WHERE WHAT IT READS IS OF BULK AT MOST 1048576: true; the input reads as it did. -/
def pocketMakesUptoRow : OpenClaim := { program := "ytgipkpkjoicehaa", sum := "58bab097b6020e185e424982425017cd5a696e974ae0b490f4679d2fc3f89324", func := "vendmeter/vendmeterlaw.PocketMakes", spec := "pocketMakes", apart := false, narrowed := true }
def PocketMakesUptoSaid : Prop := pocketMakesUptoRow.holds Try.pinned (OpenSpec.upto pocketMakesSpec)

/-- 'vendmeterlaw.PocketBoots', WHERE WHAT IT READS IS OF BULK AT MOST 1048576: true; the input reads as it did. -/
def pocketBootsUptoRow : OpenClaim := { program := "ytgipkpkjoicehaa", sum := "58bab097b6020e185e424982425017cd5a696e974ae0b490f4679d2fc3f89324", func := "vendmeter/vendmeterlaw.PocketBoots", spec := "pocketBoots", unfollowed := true, recurses := true, apart := false, narrowed := true }
def PocketBootsUptoSaid : Prop := pocketBootsUptoRow.holds Try.pinned (OpenSpec.upto pocketBootsSpec)

/-- 'vendmeterlaw.PocketTicks', WHERE WHAT IT READS IS OF BULK AT MOST 1048576: true; the input reads as it did. -/
def pocketTicksUptoRow : OpenClaim := { program := "ytgipkpkjoicehaa", sum := "58bab097b6020e185e424982425017cd5a696e974ae0b490f4679d2fc3f89324", func := "vendmeter/vendmeterlaw.PocketTicks", spec := "pocketTicks", unfollowed := true, recurses := true, apart := false, narrowed := true }
def PocketTicksUptoSaid : Prop := pocketTicksUptoRow.holds Try.pinned (OpenSpec.upto pocketTicksSpec)

end Rows
end Go.Proofs.Ytgipkpkjoicehaa
