/- The greatest of two numbers. -/
import Derived.Test.YtlolippocnngcabProg
import Derived.WalkKit
namespace Go.Proofs.Ytlolippocnngcab.tar
open Go.RowKit
theorem run_max (x y m : Int) (h : max x y = m) (w : World) : (Builtin.max_ #[3, 3] 3 #[.int .i64 x, .int .i64 y]).run Try.prog w = .ok (.int .i64 m) w := by
  subst h
  unfold Builtin.max_
  by_cases h : x < y
  · rw [show max x y = y by omega]
    simp [Builtin.max2, go_sem]
    omega
  · rw [show max x y = x by omega]
    simp [Builtin.max2, go_sem]
    omega
end Go.Proofs.Ytlolippocnngcab.tar
