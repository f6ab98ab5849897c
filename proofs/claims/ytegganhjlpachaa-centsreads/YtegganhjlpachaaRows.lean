/-
  No cell of these rows narrows 'for every input' (looked for: loops, veiled, ifaces, maps, wideKeys, modest, calm, conditions, laid).
  DERIVED. THE GIVEN ROWS OF THIS SEAT. 5 by the template 'for every input the law returns true; each argument reads behind the call as it read before'; 0 by the template 'total and deterministic' (their statements: YtegganhjlpachaaTotals.lean).
  GIVEN WITH THE SEED: the statements are not yours to turn. If you find one false, say at which input.
  Laid BY PROGRAM, IN A SANDBOX (cutbox-rows.mjs): the forced cells as the released guide's own fill.sh prints them over the translation f9ef11c1e9a6c79c… (all of the seat's roots in one cut). By AI agents, Wed Nov 11 2026. No macro, syntax, notation, axiom, sorry.
-/
import Derived.Test.YtegganhjlpachaaChecked
import GoSem.Claim
import GoSem.ClaimJoined
import GoSem.ClaimMapViews
import Derived.JoinedTies
import Derived.KernelRfl
namespace Go.Proofs.Ytegganhjlpachaa
/- THE CELL 'sum', in the pinned program and in every row, IS THE sha256 OF THE DUMP (.gsa) THAT YtegganhjlpachaaProg.lean LOADS. Nothing in Lean hashes anything: it is a label: what it is worth is what the hold of that sum in a sandbox is worth. -/
noncomputable def Try.pinned : Pinned := { name := "ytegganhjlpachaa", sum := "f9ef11c1e9a6c79cfc66906b30c5b3be54f311b07cae0f66b63b0231422823a6", checked := Try.checked }
namespace Rows
def none {H : Type} : Left H := { results := [], args := [] }

/-- 'vendmeterlaw.CentsSums': WHATEVER THE INPUT: true; the input reads as it did. -/
def centsSumsSpec : ChangeSpec := { name := "centsSums", fn := fun _ => fun
  | [d] => { results := [.lit (.bool true)], args := [d] }
  | _ => none }
def centsSumsRow : OpenClaim := { program := "ytegganhjlpachaa", sum := "f9ef11c1e9a6c79cfc66906b30c5b3be54f311b07cae0f66b63b0231422823a6", func := "vendmeter/vendmeterlaw.CentsSums", spec := "centsSums", apart := false }
def CentsSumsSaid : Prop := centsSumsRow.holds Try.pinned (OpenSpec.ofChange centsSumsSpec)

/-- ITS FALSE NEIGHBOUR: 'it returns false'. Refute it at one input. -/
def centsSumsWrong : ChangeSpec := { name := "centsSums", fn := fun _ => fun
  | [d] => { results := [.lit (.bool false)], args := [d] }
  | _ => none }
def CentsSumsWrongFalsely : Prop := centsSumsRow.holds Try.pinned (OpenSpec.ofChange centsSumsWrong)

/-- 'vendmeterlaw.CentsParts': WHATEVER THE INPUT: true; the input reads as it did. -/
def centsPartsSpec : ChangeSpec := { name := "centsParts", fn := fun _ => fun
  | [d1, d2] => { results := [.lit (.bool true)], args := [d1, d2] }
  | _ => none }
def centsPartsRow : OpenClaim := { program := "ytegganhjlpachaa", sum := "f9ef11c1e9a6c79cfc66906b30c5b3be54f311b07cae0f66b63b0231422823a6", func := "vendmeter/vendmeterlaw.CentsParts", spec := "centsParts", apart := false }
def CentsPartsSaid : Prop := centsPartsRow.holds Try.pinned (OpenSpec.ofChange centsPartsSpec)

/-- ITS FALSE NEIGHBOUR: 'it returns false'. Refute it at one input. -/
def centsPartsWrong : ChangeSpec := { name := "centsParts", fn := fun _ => fun
  | [d1, d2] => { results := [.lit (.bool false)], args := [d1, d2] }
  | _ => none }
def CentsPartsWrongFalsely : Prop := centsPartsRow.holds Try.pinned (OpenSpec.ofChange centsPartsWrong)

/-- 'vendmeterlaw.CentsDeals': WHATEVER THE INPUT: true; the input reads as it did. -/
def centsDealsSpec : ChangeSpec := { name := "centsDeals", fn := fun _ => fun
  | [d1, d2] => { results := [.lit (.bool true)], args := [d1, d2] }
  | _ => none }
def centsDealsRow : OpenClaim := { program := "ytegganhjlpachaa", sum := "f9ef11c1e9a6c79cfc66906b30c5b3be54f311b07cae0f66b63b0231422823a6", func := "vendmeter/vendmeterlaw.CentsDeals", spec := "centsDeals", unfollowed := true, recurses := true, apart := false }
def CentsDealsSaid : Prop := centsDealsRow.holds Try.pinned (OpenSpec.ofChange centsDealsSpec)

/-- ITS FALSE NEIGHBOUR: 'it returns false'. Refute it at one input. -/
def centsDealsWrong : ChangeSpec := { name := "centsDeals", fn := fun _ => fun
  | [d1, d2] => { results := [.lit (.bool false)], args := [d1, d2] }
  | _ => none }
def CentsDealsWrongFalsely : Prop := centsDealsRow.holds Try.pinned (OpenSpec.ofChange centsDealsWrong)

/-- 'vendmeterlaw.CentsReads': WHATEVER THE INPUT: true; the input reads as it did. -/
def centsReadsSpec : ChangeSpec := { name := "centsReads", fn := fun _ => fun
  | [d] => { results := [.lit (.bool true)], args := [d] }
  | _ => none }
def centsReadsRow : OpenClaim := { program := "ytegganhjlpachaa", sum := "f9ef11c1e9a6c79cfc66906b30c5b3be54f311b07cae0f66b63b0231422823a6", func := "vendmeter/vendmeterlaw.CentsReads", spec := "centsReads", inPlace := ["internal/bytealg.IndexByteString", "internal/bytealg.IndexString"], named := ["internal/bytealg.MaxLen"], apart := false }
def CentsReadsSaid : Prop := centsReadsRow.holds Try.pinned (OpenSpec.ofChange centsReadsSpec)

/-- ITS FALSE NEIGHBOUR: 'it returns false'. Refute it at one input. -/
def centsReadsWrong : ChangeSpec := { name := "centsReads", fn := fun _ => fun
  | [d] => { results := [.lit (.bool false)], args := [d] }
  | _ => none }
def CentsReadsWrongFalsely : Prop := centsReadsRow.holds Try.pinned (OpenSpec.ofChange centsReadsWrong)

/-- 'vendmeterkeep.DealAdds': WHATEVER THE INPUT: true; the input reads as it did. -/
def dealAddsSpec : ChangeSpec := { name := "dealAdds", fn := fun _ => fun
  | [d1, d2] => { results := [.lit (.bool true)], args := [d1, d2] }
  | _ => none }
def dealAddsRow : OpenClaim := { program := "ytegganhjlpachaa", sum := "f9ef11c1e9a6c79cfc66906b30c5b3be54f311b07cae0f66b63b0231422823a6", func := "vendmeter/vendmeterkeep.DealAdds", spec := "dealAdds", unfollowed := true, recurses := true, apart := false }
def DealAddsSaid : Prop := dealAddsRow.holds Try.pinned (OpenSpec.ofChange dealAddsSpec)

/-- ITS FALSE NEIGHBOUR: 'it returns false'. Refute it at one input. -/
def dealAddsWrong : ChangeSpec := { name := "dealAdds", fn := fun _ => fun
  | [d1, d2] => { results := [.lit (.bool false)], args := [d1, d2] }
  | _ => none }
def DealAddsWrongFalsely : Prop := dealAddsRow.holds Try.pinned (OpenSpec.ofChange dealAddsWrong)

/- THE SECOND FORM. 'bulk': how many values and letters a reading holds, each counted each time it is reached (what is shared counts as often as it is met; a slice's spare places count too). A statement '..UptoSaid' is the law's where the arguments, and the package variables that the reading takes, are together of bulk at most 1048576: NARROWER than '..Said'. Prove '..Said' where nothing that the law and all that it calls make is longer than what came in: it says more and counts as full. Else prove '..UptoSaid'. A law counts once. -/
mutual
def uptoBulk {H : Type} : DataW H → Nat
  | .lit (.string bytes) => bytes.length + 1
  | .lit _ => 1
  | .nil => 1
  | .ptr d => uptoBulk d + 1
  | .slice elems spare => uptoBulkAll elems + uptoBulkAll spare + 1
  | .agg parts => uptoBulkAll parts + 1
  | .iface _ d => uptoBulk d + 1
  | .map entries => uptoBulkEntries entries + 1
  | .held _ => 1
def uptoBulkAll {H : Type} : List (DataW H) → Nat
  | [] => 0
  | d :: r => uptoBulk d + uptoBulkAll r
def uptoBulkEntries {H : Type} : List (Lit × DataW H) → Nat
  | [] => 0
  | x :: r => uptoBulkEntry x + uptoBulkEntries r
def uptoBulkEntry {H : Type} : Lit × DataW H → Nat
  | (.string bytes, d) => bytes.length + uptoBulk d + 1
  | (_, d) => uptoBulk d + 1
 end
def uptoSmall : (H : Type) → List (DataW H) → Bool := fun _ ds => decide (uptoBulkAll ds ≤ 1048576)
def OpenSpec.upto (s : _root_.Go.ChangeSpec) : _root_.Go.OpenSpec := { _root_.Go.OpenSpec.ofChange s with cond := some uptoSmall }

/-- 'vendmeterlaw.CentsSums', WHERE WHAT IT READS IS OF BULK AT MOST 1048576: true; the input reads as it did. -/
def centsSumsUptoRow : OpenClaim := { program := "ytegganhjlpachaa", sum := "f9ef11c1e9a6c79cfc66906b30c5b3be54f311b07cae0f66b63b0231422823a6", func := "vendmeter/vendmeterlaw.CentsSums", spec := "centsSums", apart := false, narrowed := true }
def CentsSumsUptoSaid : Prop := centsSumsUptoRow.holds Try.pinned (OpenSpec.upto centsSumsSpec)

/-- 'vendmeterlaw.CentsParts', WHERE WHAT IT READS IS OF BULK AT MOST 1048576: true; the input reads as it did. -/
def centsPartsUptoRow : OpenClaim := { program := "ytegganhjlpachaa", sum := "f9ef11c1e9a6c79cfc66906b30c5b3be54f311b07cae0f66b63b0231422823a6", func := "vendmeter/vendmeterlaw.CentsParts", spec := "centsParts", apart := false, narrowed := true }
def CentsPartsUptoSaid : Prop := centsPartsUptoRow.holds Try.pinned (OpenSpec.upto centsPartsSpec)

/-- 'vendmeterlaw.CentsDeals', WHERE WHAT IT READS IS OF BULK AT MOST 1048576: true; the input reads as it did. -/
def centsDealsUptoRow : OpenClaim := { program := "ytegganhjlpachaa", sum := "f9ef11c1e9a6c79cfc66906b30c5b3be54f311b07cae0f66b63b0231422823a6", func := "vendmeter/vendmeterlaw.CentsDeals", spec := "centsDeals", unfollowed := true, recurses := true, apart := false, narrowed := true }
def CentsDealsUptoSaid : Prop := centsDealsUptoRow.holds Try.pinned (OpenSpec.upto centsDealsSpec)

/-- 'vendmeterlaw.CentsReads', WHERE WHAT IT READS IS OF BULK AT MOST 1048576: true; the input reads as it did. -/
def centsReadsUptoRow : OpenClaim := { program := "ytegganhjlpachaa", sum := "f9ef11c1e9a6c79cfc66906b30c5b3be54f311b07cae0f66b63b0231422823a6", func := "vendmeter/vendmeterlaw.CentsReads", spec := "centsReads", inPlace := ["internal/bytealg.IndexByteString", "internal/bytealg.IndexString"], named := ["internal/bytealg.MaxLen"], apart := false, narrowed := true }
def CentsReadsUptoSaid : Prop := centsReadsUptoRow.holds Try.pinned (OpenSpec.upto centsReadsSpec)

/-- 'vendmeterkeep.DealAdds', WHERE WHAT IT READS IS OF BULK AT MOST 1048576: true; the input reads as it did. -/
def dealAddsUptoRow : OpenClaim := { program := "ytegganhjlpachaa", sum := "f9ef11c1e9a6c79cfc66906b30c5b3be54f311b07cae0f66b63b0231422823a6", func := "vendmeter/vendmeterkeep.DealAdds", spec := "dealAdds", unfollowed := true, recurses := true, apart := false, narrowed := true }
def DealAddsUptoSaid : Prop := dealAddsUptoRow.holds Try.pinned (OpenSpec.upto dealAddsSpec)

end Rows
end Go.Proofs.Ytegganhjlpachaa
