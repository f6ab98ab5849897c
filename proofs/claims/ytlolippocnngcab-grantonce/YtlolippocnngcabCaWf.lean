/- Small numbers are well formed. -/
import Derived.WalkKit
import Derived.Below
namespace Go.Proofs.Ytlolippocnngcab.cal
open Go.RowKit

theorem wf_in {z : Int} (h0 : 0 ≤ z) (h1 : z ≤ 1000000) : (Lit.int .i64 z).wf = true := by
  have h1 : IntKind.i64.min ≤ z := by have e : IntKind.i64.min = -9223372036854775808 := by decide
                                      omega
  have h2 : z ≤ IntKind.i64.max := by have e : IntKind.i64.max = 9223372036854775807 := by decide
                                      omega
  show (decide (IntKind.i64.min ≤ z) && decide (z ≤ IntKind.i64.max)) = true
  rw [Bool.and_eq_true]
  exact ⟨decide_eq_true h1, decide_eq_true h2⟩

end Go.Proofs.Ytlolippocnngcab.cal
