/- Debts: the kind; products. -/
import Derived.Test.YtfhlokjpdkmdjaaDbD
import Derived.Test.YtfhlokjpdkmdjaaProg
import Derived.WalkKit
namespace Go.Proofs.Ytfhlokjpdkmdjaa.deb
open Go.Proofs.Ytfhlokjpdkmdjaa.tar (Du du0 Came RowD Ld ErrPost TwoPost PairT GaveD)
open Go.RowKit
set_option maxRecDepth 100000
set_option linter.unusedVariables false
set_option linter.unusedSimpArgs false

theorem debtT : PairT Try.prog 25 53 := ⟨by kernel_rfl, Try.underlying53⟩
theorem prod_le (a b A B : Int) (h1 : 0 ≤ a) (h2 : a ≤ A) (h3 : 0 ≤ b) (h4 : b ≤ B) : 0 ≤ a * b ∧ a * b ≤ A * B :=
  ⟨Int.mul_nonneg h1 h3, Int.le_trans (Int.mul_le_mul_of_nonneg_left h4 h1) (Int.mul_le_mul_of_nonneg_right h2 (by omega))⟩

end Go.Proofs.Ytfhlokjpdkmdjaa.deb
