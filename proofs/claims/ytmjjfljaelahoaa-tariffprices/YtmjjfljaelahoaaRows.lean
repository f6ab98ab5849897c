/-
  No cell of these rows narrows 'for every input' (looked for: loops, veiled, ifaces, maps, wideKeys, modest, calm, conditions, laid).
  DERIVED. THE GIVEN ROWS OF THIS SEAT. 6 by the template 'for every input the law returns true; each argument reads behind the call as it read before'; 0 by the template 'total and deterministic' (their statements: YtmjjfljaelahoaaTotals.lean).
  GIVEN WITH THE SEED: the statements are not yours to turn. If you find one false, say at which input.
  Laid BY PROGRAM, IN A SANDBOX (cutbox-rows.mjs): the forced cells as the released guide's own fill.sh prints them over the translation 5f7ab27ccf72b705… (all of the seat's roots in one cut). By AI agents, Wed Nov 11 2026. No macro, syntax, notation, axiom, sorry.
-/
import Derived.Test.YtmjjfljaelahoaaChecked
import GoSem.Claim
import GoSem.ClaimJoined
import GoSem.ClaimMapViews
import Derived.JoinedTies
import Derived.KernelRfl
namespace Go.Proofs.Ytmjjfljaelahoaa
/- THE CELL 'sum', in the pinned program and in every row, IS THE sha256 OF THE DUMP (.gsa) THAT YtmjjfljaelahoaaProg.lean LOADS. Nothing in Lean hashes anything: it is a label: what it is worth is what the hold of that sum in a sandbox is worth. -/
noncomputable def Try.pinned : Pinned := { name := "ytmjjfljaelahoaa", sum := "5f7ab27ccf72b70545c2117222aa7da8cbf10b555b38455085d6cb141f6dbe30", checked := Try.checked }
namespace Rows
def none {H : Type} : Left H := { results := [], args := [] }

/-- 'vendmeterlaw.TariffChecks': WHATEVER THE INPUT: true; the input reads as it did. -/
def tariffChecksSpec : ChangeSpec := { name := "tariffChecks", fn := fun _ => fun
  | [d] => { results := [.lit (.bool true)], args := [d] }
  | _ => none }
def tariffChecksRow : OpenClaim := { program := "ytmjjfljaelahoaa", sum := "5f7ab27ccf72b70545c2117222aa7da8cbf10b555b38455085d6cb141f6dbe30", func := "vendmeter/vendmeterlaw.TariffChecks", spec := "tariffChecks", apart := false }
def TariffChecksSaid : Prop := tariffChecksRow.holds Try.pinned (OpenSpec.ofChange tariffChecksSpec)

/-- ITS FALSE NEIGHBOUR: 'it returns false'. Refute it at one input. -/
def tariffChecksWrong : ChangeSpec := { name := "tariffChecks", fn := fun _ => fun
  | [d] => { results := [.lit (.bool false)], args := [d] }
  | _ => none }
def TariffChecksWrongFalsely : Prop := tariffChecksRow.holds Try.pinned (OpenSpec.ofChange tariffChecksWrong)

/-- 'vendmeterlaw.TariffPrices': WHATEVER THE INPUT: true; the input reads as it did. -/
def tariffPricesSpec : ChangeSpec := { name := "tariffPrices", fn := fun _ => fun
  | [d1, d2, d3] => { results := [.lit (.bool true)], args := [d1, d2, d3] }
  | _ => none }
def tariffPricesRow : OpenClaim := { program := "ytmjjfljaelahoaa", sum := "5f7ab27ccf72b70545c2117222aa7da8cbf10b555b38455085d6cb141f6dbe30", func := "vendmeter/vendmeterlaw.TariffPrices", spec := "tariffPrices", unfollowed := true, recurses := true, apart := false }
def TariffPricesSaid : Prop := tariffPricesRow.holds Try.pinned (OpenSpec.ofChange tariffPricesSpec)

/-- ITS FALSE NEIGHBOUR: 'it returns false'. Refute it at one input. -/
def tariffPricesWrong : ChangeSpec := { name := "tariffPrices", fn := fun _ => fun
  | [d1, d2, d3] => { results := [.lit (.bool false)], args := [d1, d2, d3] }
  | _ => none }
def TariffPricesWrongFalsely : Prop := tariffPricesRow.holds Try.pinned (OpenSpec.ofChange tariffPricesWrong)

/-- 'vendmeterlaw.TariffBills': WHATEVER THE INPUT: true; the input reads as it did. -/
def tariffBillsSpec : ChangeSpec := { name := "tariffBills", fn := fun _ => fun
  | [d1, d2, d3] => { results := [.lit (.bool true)], args := [d1, d2, d3] }
  | _ => none }
def tariffBillsRow : OpenClaim := { program := "ytmjjfljaelahoaa", sum := "5f7ab27ccf72b70545c2117222aa7da8cbf10b555b38455085d6cb141f6dbe30", func := "vendmeter/vendmeterlaw.TariffBills", spec := "tariffBills", unfollowed := true, recurses := true, apart := false }
def TariffBillsSaid : Prop := tariffBillsRow.holds Try.pinned (OpenSpec.ofChange tariffBillsSpec)

/-- ITS FALSE NEIGHBOUR: 'it returns false'. Refute it at one input. -/
def tariffBillsWrong : ChangeSpec := { name := "tariffBills", fn := fun _ => fun
  | [d1, d2, d3] => { results := [.lit (.bool false)], args := [d1, d2, d3] }
  | _ => none }
def TariffBillsWrongFalsely : Prop := tariffBillsRow.holds Try.pinned (OpenSpec.ofChange tariffBillsWrong)

/-- 'vendmeterlaw.TariffMosts': WHATEVER THE INPUT: true; the input reads as it did. -/
def tariffMostsSpec : ChangeSpec := { name := "tariffMosts", fn := fun _ => fun
  | [d1, d2, d3] => { results := [.lit (.bool true)], args := [d1, d2, d3] }
  | _ => none }
def tariffMostsRow : OpenClaim := { program := "ytmjjfljaelahoaa", sum := "5f7ab27ccf72b70545c2117222aa7da8cbf10b555b38455085d6cb141f6dbe30", func := "vendmeter/vendmeterlaw.TariffMosts", spec := "tariffMosts", unfollowed := true, recurses := true, apart := false }
def TariffMostsSaid : Prop := tariffMostsRow.holds Try.pinned (OpenSpec.ofChange tariffMostsSpec)

/-- ITS FALSE NEIGHBOUR: 'it returns false'. Refute it at one input. -/
def tariffMostsWrong : ChangeSpec := { name := "tariffMosts", fn := fun _ => fun
  | [d1, d2, d3] => { results := [.lit (.bool false)], args := [d1, d2, d3] }
  | _ => none }
def TariffMostsWrongFalsely : Prop := tariffMostsRow.holds Try.pinned (OpenSpec.ofChange tariffMostsWrong)

/-- 'vendmeterkeep.TariffAdds': WHATEVER THE INPUT: true; the input reads as it did. -/
def tariffAddsSpec : ChangeSpec := { name := "tariffAdds", fn := fun _ => fun
  | [d1, d2, d3, d4] => { results := [.lit (.bool true)], args := [d1, d2, d3, d4] }
  | _ => none }
def tariffAddsRow : OpenClaim := { program := "ytmjjfljaelahoaa", sum := "5f7ab27ccf72b70545c2117222aa7da8cbf10b555b38455085d6cb141f6dbe30", func := "vendmeter/vendmeterkeep.TariffAdds", spec := "tariffAdds", unfollowed := true, recurses := true, apart := false }
def TariffAddsSaid : Prop := tariffAddsRow.holds Try.pinned (OpenSpec.ofChange tariffAddsSpec)

/-- ITS FALSE NEIGHBOUR: 'it returns false'. Refute it at one input. -/
def tariffAddsWrong : ChangeSpec := { name := "tariffAdds", fn := fun _ => fun
  | [d1, d2, d3, d4] => { results := [.lit (.bool false)], args := [d1, d2, d3, d4] }
  | _ => none }
def TariffAddsWrongFalsely : Prop := tariffAddsRow.holds Try.pinned (OpenSpec.ofChange tariffAddsWrong)

/-- 'vendmeterkeep.TariffRises': WHATEVER THE INPUT: true; the input reads as it did. -/
def tariffRisesSpec : ChangeSpec := { name := "tariffRises", fn := fun _ => fun
  | [d1, d2, d3] => { results := [.lit (.bool true)], args := [d1, d2, d3] }
  | _ => none }
def tariffRisesRow : OpenClaim := { program := "ytmjjfljaelahoaa", sum := "5f7ab27ccf72b70545c2117222aa7da8cbf10b555b38455085d6cb141f6dbe30", func := "vendmeter/vendmeterkeep.TariffRises", spec := "tariffRises", unfollowed := true, recurses := true, apart := false }
def TariffRisesSaid : Prop := tariffRisesRow.holds Try.pinned (OpenSpec.ofChange tariffRisesSpec)

/-- ITS FALSE NEIGHBOUR: 'it returns false'. Refute it at one input. -/
def tariffRisesWrong : ChangeSpec := { name := "tariffRises", fn := fun _ => fun
  | [d1, d2, d3] => { results := [.lit (.bool false)], args := [d1, d2, d3] }
  | _ => none }
def TariffRisesWrongFalsely : Prop := tariffRisesRow.holds Try.pinned (OpenSpec.ofChange tariffRisesWrong)

/- THE SECOND FORM. 'bulk': how many values and letters a reading holds, each counted each time it is reached (what is shared counts as often as it is met; a slice's spare places count too). A statement '..UptoSaid' is the law's where the arguments, and the package variables that the reading takes, are together of bulk at most 1048576: NARROWER than '..Said'. Prove '..Said' where nothing that the law and all that it calls make is longer than what came in: it says more and counts as full. Else prove '..UptoSaid'. A law counts once. -/
mutual
def uptoBulk {H : Type} : DataW H → Nat
  | .lit (.string bytes) => bytes.length + 1
  | .lit _ => 1
  | .nil => 1
  | .ptr d => uptoBulk d + 1
  | .slice elems spare => uptoBulkAll elems + uptoBulkAll spare + 1
  | .agg parts => uptoBulkAll parts + 1
  | .iface _ d => uptoBulk d + 1
  | .map entries => uptoBulkEntries entries + 1
  | .held _ => 1
def uptoBulkAll {H : Type} : List (DataW H) → Nat
  | [] => 0
  | d :: r => uptoBulk d + uptoBulkAll r
def uptoBulkEntries {H : Type} : List (Lit × DataW H) → Nat
  | [] => 0
  | x :: r => uptoBulkEntry x + uptoBulkEntries r
def uptoBulkEntry {H : Type} : Lit × DataW H → Nat
  | (.string bytes, d) => bytes.length + uptoBulk d + 1
  | (_, d) => uptoBulk d + 1
 end
def uptoSmall : (H : Type) → List (DataW H) → Bool := fun _ ds => decide (uptoBulkAll ds ≤ 1048576)
def OpenSpec.upto (s : _root_.Go.ChangeSpec) : _root_.Go.OpenSpec := { _root_.Go.OpenSpec.ofChange s with cond := some uptoSmall }

/-- 'vendmeterlaw.TariffChecks', WHERE WHAT IT READS IS OF BULK AT MOST 1048576: true; the input reads as it did. -/
def tariffChecksUptoRow : OpenClaim := { program := "ytmjjfljaelahoaa", sum := "5f7ab27ccf72b70545c2117222aa7da8cbf10b555b38455085d6cb141f6dbe30", func := "vendmeter/vendmeterlaw.TariffChecks", spec := "tariffChecks", apart := false, narrowed := true }
def TariffChecksUptoSaid : Prop := tariffChecksUptoRow.holds Try.pinned (OpenSpec.upto tariffChecksSpec)

/-- 'vendmeterlaw.TariffPrices', WHERE WHAT IT READS IS OF BULK AT MOST 1048576: true; the input reads as it did. -/
def tariffPricesUptoRow : OpenClaim := { program := "ytmjjfljaelahoaa", sum := "5f7ab27ccf72b70545c2117222aa7da8cbf10b555b38455085d6cb141f6dbe30", func := "vendmeter/vendmeterlaw.TariffPrices", spec := "tariffPrices", unfollowed := true, recurses := true, apart := false, narrowed := true }
def TariffPricesUptoSaid : Prop := tariffPricesUptoRow.holds Try.pinned (OpenSpec.upto tariffPricesSpec)

/-- 'vendmeterlaw.TariffBills', WHERE WHAT IT READS IS OF BULK AT MOST 1048576: true; the input reads as it did. -/
def tariffBillsUptoRow : OpenClaim := { program := "ytmjjfljaelahoaa", sum := "5f7ab27ccf72b70545c2117222aa7da8cbf10b555b38455085d6cb141f6dbe30", func := "vendmeter/vendmeterlaw.TariffBills", spec := "tariffBills", unfollowed := true, recurses := true, apart := false, narrowed := true }
def TariffBillsUptoSaid : Prop := tariffBillsUptoRow.holds Try.pinned (OpenSpec.upto tariffBillsSpec)

/-- 'vendmeterlaw.TariffMosts', WHERE WHAT IT READS IS OF BULK AT MOST 1048576: true; the input reads as it did. -/
def tariffMostsUptoRow : OpenClaim := { program := "ytmjjfljaelahoaa", sum := "5f7ab27ccf72b70545c2117222aa7da8cbf10b555b38455085d6cb141f6dbe30", func := "vendmeter/vendmeterlaw.TariffMosts", spec := "tariffMosts", unfollowed := true, recurses := true, apart := false, narrowed := true }
def TariffMostsUptoSaid : Prop := tariffMostsUptoRow.holds Try.pinned (OpenSpec.upto tariffMostsSpec)

/-- 'vendmeterkeep.TariffAdds', WHERE WHAT IT READS IS OF BULK AT MOST 1048576: true; the input reads as it did. -/
def tariffAddsUptoRow : OpenClaim := { program := "ytmjjfljaelahoaa", sum := "5f7ab27ccf72b70545c2117222aa7da8cbf10b555b38455085d6cb141f6dbe30", func := "vendmeter/vendmeterkeep.TariffAdds", spec := "tariffAdds", unfollowed := true, recurses := true, apart := false, narrowed := true }
def TariffAddsUptoSaid : Prop := tariffAddsUptoRow.holds Try.pinned (OpenSpec.upto tariffAddsSpec)

/-- 'vendmeterkeep.TariffRises', WHERE WHAT IT READS IS OF BULK AT MOST 1048576: true; the input reads as it did. -/
def tariffRisesUptoRow : OpenClaim := { program := "ytmjjfljaelahoaa", sum := "5f7ab27ccf72b70545c2117222aa7da8cbf10b555b38455085d6cb141f6dbe30", func := "vendmeter/vendmeterkeep.TariffRises", spec := "tariffRises", unfollowed := true, recurses := true, apart := false, narrowed := true }
def TariffRisesUptoSaid : Prop := tariffRisesUptoRow.holds Try.pinned (OpenSpec.upto tariffRisesSpec)

end Rows
end Go.Proofs.Ytmjjfljaelahoaa
