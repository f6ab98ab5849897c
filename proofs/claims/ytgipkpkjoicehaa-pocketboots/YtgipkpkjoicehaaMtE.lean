/- Meters, compared. -/
import Derived.Test.YtgipkpkjoicehaaMtD
import Derived.Test.YtgipkpkjoicehaaLet
import Derived.Laws.StructEq
namespace Go.Proofs.Ytgipkpkjoicehaa.met
open Go.RowKit
set_option maxRecDepth 100000
set_option linter.unusedSimpArgs false

theorem meI (d : Nat) (a b : Int) (w : World) : (Op.equalIn (d + 1) 3 (.int .i64 a) (.int .i64 b)).run Try.prog w = .ok (a == b) w := run_equalIn_int w d _ _ _ a b Try.underlying3
theorem meU (d : Nat) (a b : Int) (w : World) : (Op.equalIn (d + 1) 29 (.int .u64 a) (.int .u64 b)).run Try.prog w = .ok (a == b) w := run_equalIn_int w d _ _ _ a b Try.underlying29
theorem mw0 (s c : Int) (w : World) : (part 3 #[.int .i64 s, .int .u64 c] 0).run Try.prog w = .ok (.int .i64 s) w := by kernel_rfl
theorem mw1 (s c : Int) (w : World) : (part 29 #[.int .i64 s, .int .u64 c] 1).run Try.prog w = .ok (.int .u64 c) w := by kernel_rfl
theorem mq0 (a b c d e f g : Int) (w : World) : (part 3 #[.int .i64 a, .int .i64 b, .int .i64 c, .int .i64 d, .int .u64 e, .int .i64 f, .int .i64 g] 0).run Try.prog w = .ok (.int .i64 a) w := by kernel_rfl
theorem mq1 (a b c d e f g : Int) (w : World) : (part 3 #[.int .i64 a, .int .i64 b, .int .i64 c, .int .i64 d, .int .u64 e, .int .i64 f, .int .i64 g] 1).run Try.prog w = .ok (.int .i64 b) w := by kernel_rfl
theorem mq2 (a b c d e f g : Int) (w : World) : (part 3 #[.int .i64 a, .int .i64 b, .int .i64 c, .int .i64 d, .int .u64 e, .int .i64 f, .int .i64 g] 2).run Try.prog w = .ok (.int .i64 c) w := by kernel_rfl
theorem mq3 (a b c d e f g : Int) (w : World) : (part 31 #[.int .i64 a, .int .i64 b, .int .i64 c, .int .i64 d, .int .u64 e, .int .i64 f, .int .i64 g] 3).run Try.prog w = .ok (.agg #[.int .i64 d, .int .u64 e]) w := by kernel_rfl
theorem mq5 (a b c d e f g : Int) (w : World) : (part 3 #[.int .i64 a, .int .i64 b, .int .i64 c, .int .i64 d, .int .u64 e, .int .i64 f, .int .i64 g] 5).run Try.prog w = .ok (.int .i64 f) w := by kernel_rfl
theorem mq6 (a b c d e f g : Int) (w : World) : (part 3 #[.int .i64 a, .int .i64 b, .int .i64 c, .int .i64 d, .int .u64 e, .int .i64 f, .int .i64 g] 6).run Try.prog w = .ok (.int .i64 g) w := by kernel_rfl
theorem eqWd (d : Nat) (s b : Int) (w : World) : (Op.equalIn (d + 1 + 1) 31 (.agg #[.int .i64 s, .int .u64 b]) (.agg #[.int .i64 s, .int .u64 b])).run Try.prog w = .ok true w := by
  rw [run_equalIn_agg w (d + 1) 31 _ _ (by kernel_rfl) (by kernel_rfl)]
  simp only [Program.fieldsOf, Try.underlying31, Op.eqFields, Sem.run_bind, Sem.run_ite]
  simp [mw0, mw1, meI, meU]
theorem eqMt (a b c d e f g : Int) (w : World) :
    (Op.equalIn 10000 33 (.agg #[.int .i64 a, .int .i64 b, .int .i64 c, .int .i64 d, .int .u64 e, .int .i64 f, .int .i64 g]) (.agg #[.int .i64 a, .int .i64 b, .int .i64 c, .int .i64 d, .int .u64 e, .int .i64 f, .int .i64 g])).run Try.prog w = .ok true w := by
  rw [show (10000 : Nat) = 9999 + 1 from rfl, run_equalIn_agg w 9999 33 _ _ (by kernel_rfl) (by kernel_rfl)]
  simp only [Program.fieldsOf, Try.underlying33, Op.eqFields, Sem.run_bind, Sem.run_ite]
  simp [mq0, mq1, mq2, mq3, mq5, mq6, show (9999 : Nat) = 9997 + 1 + 1 from rfl, meI, eqWd]

end Go.Proofs.Ytgipkpkjoicehaa.met
