/- In, as the document has it. -/
import Derived.WalkKit
import Derived.Below
import Derived.Test.YtfhlokjpdkmdjaaProg
namespace Go.Proofs.Ytfhlokjpdkmdjaa.cal
open Go.RowKit

theorem cin (n lo hi : Int) (w : World) : Calls Try.prog 47 #[.int .i64 n, .int .i64 lo, .int .i64 hi] w fun e w' => e = .returned (.bool (decide (lo ≤ n ∧ n ≤ hi))) ∧ w' = w := by
  by_cases h1 : lo ≤ n
  · by_cases h2 : n ≤ hi
    · have h3 : decide (lo ≤ n ∧ n ≤ hi) = true := by simp; omega
      rw [h3]; clear h3
      go_enter Try.func47, Try.ntmps47
      go_wp2
      go_ret
      exact ⟨rfl, rfl⟩
    · have h3 : decide (lo ≤ n ∧ n ≤ hi) = false := by simp; omega
      have h4 : decide (n ≤ hi) = false := by simp; omega
      rw [h3]; clear h3 h2
      go_enter Try.func47, Try.ntmps47
      go_wp2
      go_ret
      exact ⟨rfl, rfl⟩
  · have h3 : decide (lo ≤ n ∧ n ≤ hi) = false := by simp; omega
    have h4 : decide (lo ≤ n) = false := by simp; omega
    rw [h3]; clear h3 h1
    go_enter Try.func47, Try.ntmps47
    go_wp2
    go_ret
    exact ⟨rfl, rfl⟩

end Go.Proofs.Ytfhlokjpdkmdjaa.cal
