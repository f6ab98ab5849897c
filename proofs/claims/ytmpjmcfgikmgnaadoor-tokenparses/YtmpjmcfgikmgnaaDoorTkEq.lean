/- Two tokens are compared. -/
import Derived.Test.YtmpjmcfgikmgnaaDoorTkN
import Derived.Laws.StructEq
import Derived.WalkKit
namespace Go.Proofs.YtmpjmcfgikmgnaaDoor.token
open Go.RowKit
set_option maxRecDepth 100000

theorem eqI (d : Nat) (a a' : Int) (w : World) : (Op.equalIn (d + 1) 3 (.int .i64 a) (.int .i64 a')).run Tryd.prog w = .ok (a == a') w := run_equalIn_int w d _ _ _ a a' Tryd.underlying3
theorem fl0 (a b c d : Int) (w : World) : (part 3 #[.int .i64 a, .int .i64 b, .int .i64 c, .int .i64 d] 0).run Tryd.prog w = .ok (.int .i64 a) w := by kernel_rfl
theorem fl1 (a b c d : Int) (w : World) : (part 3 #[.int .i64 a, .int .i64 b, .int .i64 c, .int .i64 d] 1).run Tryd.prog w = .ok (.int .i64 b) w := by kernel_rfl
theorem fl2 (a b c d : Int) (w : World) : (part 3 #[.int .i64 a, .int .i64 b, .int .i64 c, .int .i64 d] 2).run Tryd.prog w = .ok (.int .i64 c) w := by kernel_rfl
theorem fl3 (a b c d : Int) (w : World) : (part 3 #[.int .i64 a, .int .i64 b, .int .i64 c, .int .i64 d] 3).run Tryd.prog w = .ok (.int .i64 d) w := by kernel_rfl

theorem eq4 (a b c d a' b' c' d' : Int) (w : World) :
    (Op.equalIn 10000 23 (.agg #[.int .i64 a, .int .i64 b, .int .i64 c, .int .i64 d]) (.agg #[.int .i64 a', .int .i64 b', .int .i64 c', .int .i64 d'])).run Tryd.prog w = .ok (a == a' && (b == b' && (c == c' && d == d'))) w := by
  rw [show (10000 : Nat) = 9999 + 1 from rfl, run_equalIn_agg w 9999 23 _ _ (by kernel_rfl) (by kernel_rfl)]
  simp only [Program.fieldsOf, Tryd.underlying23, Op.eqFields, Sem.run_bind, Sem.run_ite]
  by_cases h1 : a = a' <;> by_cases h2 : b = b' <;> by_cases h3 : c = c' <;> by_cases h4 : d = d' <;> simp [fl0, fl1, fl2, fl3, show (9999 : Nat) = 9998 + 1 from rfl, eqI, h1, h2, h3, h4]

end Go.Proofs.YtmpjmcfgikmgnaaDoor.token
