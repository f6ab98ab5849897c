/- Debts compared. -/
import Derived.Test.YtlolippocnngcacDbK
import Derived.Test.YtlolippocnngcacProg
import Derived.WalkKit
import Derived.Laws.StructEq
namespace Go.Proofs.Ytlolippocnngcac.deb
open Go.Proofs.Ytlolippocnngcac.tar (Du du0 Came RowD Ld PairT GaveD wp_pairs)
open Go.RowKit
set_option linter.unusedSimpArgs false
set_option linter.unusedVariables false
set_option maxRecDepth 100000

theorem seI (d : Nat) (a b : Int) (w : World) : (Op.equalIn (d + 1) 3 (.int .i64 a) (.int .i64 b)).run Try.prog w = .ok (a == b) w := run_equalIn_int w d _ _ _ a b Try.underlying3
theorem sf0 (s c : Int) (w : World) : (part 3 #[.int .i64 s, .int .i64 c] 0).run Try.prog w = .ok (.int .i64 s) w := by kernel_rfl
theorem sf1 (s c : Int) (w : World) : (part 3 #[.int .i64 s, .int .i64 c] 1).run Try.prog w = .ok (.int .i64 c) w := by kernel_rfl
theorem eqDebt (s t b c : Int) (w : World) :
    (Op.equalIn 10000 46 (.agg #[.int .i64 s, .int .i64 b]) (.agg #[.int .i64 t, .int .i64 c])).run Try.prog w = .ok (s == t && b == c) w := by
  rw [show (10000 : Nat) = 9999 + 1 from rfl, run_equalIn_agg w 9999 46 _ _ (by kernel_rfl) (by kernel_rfl)]
  simp only [Program.fieldsOf, Try.underlying46, Op.eqFields, Sem.run_bind, Sem.run_ite]
  by_cases h1 : (s == t) = true <;> by_cases h2 : (b == c) = true <;> simp [sf0, sf1, show (9999 : Nat) = 9998 + 1 from rfl, seI, h1, h2]

end Go.Proofs.Ytlolippocnngcac.deb
