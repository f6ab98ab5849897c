/- Lies a number within its bounds, in the program. -/
import Derived.WalkKit
import Derived.Below
import Derived.Test.YtlolippocnngcabProg
namespace Go.Proofs.Ytlolippocnngcab.tar
open Go.RowKit

theorem pwithin (lo hi n : Int) (w : World) : Calls Try.prog 54 #[.int .i64 lo, .int .i64 hi, .int .i64 n] w fun e w' => e = .returned (.bool (decide (lo ≤ n ∧ n ≤ hi))) ∧ w' = w := by
  by_cases h1 : lo ≤ n
  · by_cases h2 : n ≤ hi
    · have h3 : decide (lo ≤ n ∧ n ≤ hi) = true := by simp; omega
      rw [h3]; clear h3
      go_enter Try.func54, Try.ntmps54
      go_wp2
      go_ret
      exact ⟨rfl, rfl⟩
    · have h3 : decide (lo ≤ n ∧ n ≤ hi) = false := by simp; omega
      have h4 : decide (n ≤ hi) = false := by simp; omega
      rw [h3]; clear h3 h2
      go_enter Try.func54, Try.ntmps54
      go_wp2
      go_ret
      exact ⟨rfl, rfl⟩
  · have h3 : decide (lo ≤ n ∧ n ≤ hi) = false := by simp; omega
    have h4 : decide (lo ≤ n) = false := by simp; omega
    rw [h3]; clear h3 h1
    go_enter Try.func54, Try.ntmps54
    go_wp2
    go_ret
    exact ⟨rfl, rfl⟩

end Go.Proofs.Ytlolippocnngcab.tar
