/- Bills compared. -/
import Derived.Test.YtlolippocnngcabProg
import Derived.Laws.StructEq
import Derived.WalkKit
namespace Go.Proofs.Ytlolippocnngcab.acc
open Go.RowKit
set_option maxRecDepth 100000

theorem beI (d : Nat) (a a' : Int) (w : World) : (Op.equalIn (d + 1) 3 (.int .i64 a) (.int .i64 a')).run Try.prog w = .ok (a == a') w := run_equalIn_int w d _ _ _ a a' Try.underlying3
theorem bf0 (a b c d e f g : Int) (w : World) : (part 3 #[.int .i64 a, .int .i64 b, .int .i64 c, .int .i64 d, .int .i64 e, .int .i64 f, .int .i64 g] 0).run Try.prog w = .ok (.int .i64 a) w := by kernel_rfl
theorem bf1 (a b c d e f g : Int) (w : World) : (part 3 #[.int .i64 a, .int .i64 b, .int .i64 c, .int .i64 d, .int .i64 e, .int .i64 f, .int .i64 g] 1).run Try.prog w = .ok (.int .i64 b) w := by kernel_rfl
theorem bf2 (a b c d e f g : Int) (w : World) : (part 3 #[.int .i64 a, .int .i64 b, .int .i64 c, .int .i64 d, .int .i64 e, .int .i64 f, .int .i64 g] 2).run Try.prog w = .ok (.int .i64 c) w := by kernel_rfl
theorem bf3 (a b c d e f g : Int) (w : World) : (part 3 #[.int .i64 a, .int .i64 b, .int .i64 c, .int .i64 d, .int .i64 e, .int .i64 f, .int .i64 g] 3).run Try.prog w = .ok (.int .i64 d) w := by kernel_rfl
theorem bf4 (a b c d e f g : Int) (w : World) : (part 3 #[.int .i64 a, .int .i64 b, .int .i64 c, .int .i64 d, .int .i64 e, .int .i64 f, .int .i64 g] 4).run Try.prog w = .ok (.int .i64 e) w := by kernel_rfl
theorem bf5 (a b c d e f g : Int) (w : World) : (part 3 #[.int .i64 a, .int .i64 b, .int .i64 c, .int .i64 d, .int .i64 e, .int .i64 f, .int .i64 g] 5).run Try.prog w = .ok (.int .i64 f) w := by kernel_rfl
theorem bf6 (a b c d e f g : Int) (w : World) : (part 3 #[.int .i64 a, .int .i64 b, .int .i64 c, .int .i64 d, .int .i64 e, .int .i64 f, .int .i64 g] 6).run Try.prog w = .ok (.int .i64 g) w := by kernel_rfl
theorem eqBill (a b c d e f g : Int) (w : World) :
    (Op.equalIn 10000 27 (.agg #[.int .i64 a, .int .i64 b, .int .i64 c, .int .i64 d, .int .i64 e, .int .i64 f, .int .i64 g]) (.agg #[.int .i64 a, .int .i64 b, .int .i64 c, .int .i64 d, .int .i64 e, .int .i64 f, .int .i64 g])).run Try.prog w = .ok true w := by
  rw [show (10000 : Nat) = 9999 + 1 from rfl, run_equalIn_agg w 9999 27 _ _ (by kernel_rfl) (by kernel_rfl)]
  simp only [Program.fieldsOf, Try.underlying27, Op.eqFields, Sem.run_bind, Sem.run_ite]
  simp [bf0, bf1, bf2, bf3, bf4, bf5, bf6, show (9999 : Nat) = 9998 + 1 from rfl, beI]

end Go.Proofs.Ytlolippocnngcab.acc
