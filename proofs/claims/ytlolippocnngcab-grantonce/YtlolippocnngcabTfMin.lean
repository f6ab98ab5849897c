/- The least of two numbers. -/
import Derived.Test.YtlolippocnngcabProg
import Derived.WalkKit
namespace Go.Proofs.Ytlolippocnngcab.tar
open Go.RowKit
theorem run_min (x y m : Int) (h : min x y = m) (w : World) : (Builtin.min_ #[3, 3] 3 #[.int .i64 x, .int .i64 y]).run Try.prog w = .ok (.int .i64 m) w := by
  subst h
  unfold Builtin.min_
  by_cases h : y < x
  · rw [show min x y = y by omega]
    simp [Builtin.min2, go_sem]
    omega
  · rw [show min x y = x by omega]
    simp [Builtin.min2, go_sem]
    omega
end Go.Proofs.Ytlolippocnngcab.tar
