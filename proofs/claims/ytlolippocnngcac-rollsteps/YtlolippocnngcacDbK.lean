/- Debts: the kind; products. -/
import Derived.Test.YtlolippocnngcacDbD
import Derived.Test.YtlolippocnngcacProg
import Derived.WalkKit
namespace Go.Proofs.Ytlolippocnngcac.deb
open Go.Proofs.Ytlolippocnngcac.tar (Du du0 Came RowD Ld ErrPost TwoPost PairT GaveD)
open Go.RowKit
set_option maxRecDepth 100000
set_option linter.unusedVariables false
set_option linter.unusedSimpArgs false

theorem debtT : PairT Try.prog 46 25 := ⟨by kernel_rfl, Try.underlying25⟩
theorem prod_le (a b A B : Int) (h1 : 0 ≤ a) (h2 : a ≤ A) (h3 : 0 ≤ b) (h4 : b ≤ B) : 0 ≤ a * b ∧ a * b ≤ A * B :=
  ⟨Int.mul_nonneg h1 h3, Int.le_trans (Int.mul_le_mul_of_nonneg_left h4 h1) (Int.mul_le_mul_of_nonneg_right h2 (by omega))⟩

end Go.Proofs.Ytlolippocnngcac.deb
