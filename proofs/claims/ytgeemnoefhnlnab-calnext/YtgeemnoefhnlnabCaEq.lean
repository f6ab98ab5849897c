/- Dates compared. -/
import Derived.Test.YtgeemnoefhnlnabCaN
import Derived.Test.YtgeemnoefhnlnabProg
import Derived.Laws.StructEq
import Derived.WalkKit
namespace Go.Proofs.Ytgeemnoefhnlnab.cal
open Go.RowKit
set_option maxRecDepth 100000

theorem ceI (d : Nat) (a a' : Int) (w : World) : (Op.equalIn (d + 1) 3 (.int .i64 a) (.int .i64 a')).run Try.prog w = .ok (a == a') w := run_equalIn_int w d _ _ _ a a' Try.underlying3
theorem cf0 (a b c : Int) (w : World) : (part 3 #[.int .i64 a, .int .i64 b, .int .i64 c] 0).run Try.prog w = .ok (.int .i64 a) w := by kernel_rfl
theorem cf1 (a b c : Int) (w : World) : (part 3 #[.int .i64 a, .int .i64 b, .int .i64 c] 1).run Try.prog w = .ok (.int .i64 b) w := by kernel_rfl
theorem cf2 (a b c : Int) (w : World) : (part 3 #[.int .i64 a, .int .i64 b, .int .i64 c] 2).run Try.prog w = .ok (.int .i64 c) w := by kernel_rfl
theorem eqDate (a b c : Int) (w : World) :
    (Op.equalIn 10000 24 (.agg #[.int .i64 a, .int .i64 b, .int .i64 c]) (.agg #[.int .i64 a, .int .i64 b, .int .i64 c])).run Try.prog w = .ok true w := by
  rw [show (10000 : Nat) = 9999 + 1 from rfl, run_equalIn_agg w 9999 24 _ _ (by kernel_rfl) (by kernel_rfl)]
  simp only [Program.fieldsOf, Try.underlying24, Op.eqFields, Sem.run_bind, Sem.run_ite]
  simp [cf0, cf1, cf2, show (9999 : Nat) = 9998 + 1 from rfl, ceI]

end Go.Proofs.Ytgeemnoefhnlnab.cal
