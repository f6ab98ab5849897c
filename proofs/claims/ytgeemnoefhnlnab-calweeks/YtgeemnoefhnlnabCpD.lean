/- Is there such a day? -/
import Derived.Test.YtgeemnoefhnlnabCaN
import Derived.WalkKit
import Derived.Below
import Derived.Test.YtgeemnoefhnlnabProg
namespace Go.Proofs.Ytgeemnoefhnlnab.cal
open Go.RowKit
set_option maxRecDepth 100000
set_option linter.unusedVariables false
set_option linter.unusedSimpArgs false

theorem pisDay (n : Int) (w : World) : Calls Try.prog 11 #[.int .i64 n] w fun e w' => e = .returned (.bool (decide (0 ≤ n ∧ n ≤ 73048))) ∧ w' = w := by
  by_cases h1 : 0 ≤ n
  · by_cases h2 : n ≤ 73048
    · have h3 : decide (0 ≤ n ∧ n ≤ 73048) = true := by simp; omega
      rw [h3]; clear h3
      go_enter Try.func11, Try.ntmps11
      go_wp2
      go_ret
      exact ⟨rfl, rfl⟩
    · have h3 : decide (0 ≤ n ∧ n ≤ 73048) = false := by simp; omega
      have h4 : decide (n ≤ 73048) = false := by simp; omega
      rw [h3]; clear h3 h2
      go_enter Try.func11, Try.ntmps11
      go_wp2
      go_ret
      exact ⟨rfl, rfl⟩
  · have h3 : decide (0 ≤ n ∧ n ≤ 73048) = false := by simp; omega
    have h4 : decide (0 ≤ n) = false := by simp; omega
    rw [h3]; clear h3 h1
    go_enter Try.func11, Try.ntmps11
    go_wp2
    go_ret
    exact ⟨rfl, rfl⟩

end Go.Proofs.Ytgeemnoefhnlnab.cal
