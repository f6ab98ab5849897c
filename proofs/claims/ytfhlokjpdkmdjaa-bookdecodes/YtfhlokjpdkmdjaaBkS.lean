/- Events that are the same. -/
import Derived.Test.YtfhlokjpdkmdjaaBkE
import Derived.Below
namespace Go.Proofs.Ytfhlokjpdkmdjaa.book
open Go.RowKit Go.Proofs.Ytfhlokjpdkmdjaa.cell
set_option maxRecDepth 100000
set_option linter.unusedVariables false
set_option linter.unusedSimpArgs false

theorem eqSame (kd me mo id te de fe pr ch un tg ow bp : Int) (wz : World) : (Op.equalIn 10000 27 (.agg #[.int .i64 kd, .int .i64 me, .int .i64 mo, .int .i64 id, .int .i64 te, .int .i64 de, .int .i64 fe, .int .i64 pr, .int .i64 ch, .int .i64 un, .int .i64 tg, .int .i64 ow, .int .i64 bp]) (.agg #[.int .i64 kd, .int .i64 me, .int .i64 mo, .int .i64 id, .int .i64 te, .int .i64 de, .int .i64 fe, .int .i64 pr, .int .i64 ch, .int .i64 un, .int .i64 tg, .int .i64 ow, .int .i64 bp])).run Try.prog wz = .ok true wz := by
  rw [show (10000 : Nat) = 9997 + 3 from rfl, eqEv]
  simp

end Go.Proofs.Ytfhlokjpdkmdjaa.book
