/- order.withNumbers. -/
import Derived.Test.YtlianhienbhbgaaDoorOdA
namespace Go.Proofs.YtlianhienbhbgaaDoor.odr
open Go.RowKit
set_option maxRecDepth 100000
set_option linter.unusedVariables false
set_option linter.unusedSimpArgs false

def withN (x : Ac) (p q r s : Int) : Ac := ⟨x.k, p, q, r, s, x.t, x.cut⟩
set_option maxHeartbeats 2000000 in
theorem pwithNumbers (x : Ac) (p q r s : Int) (w : World) : Calls Tryd.prog 24 #[x.v, .agg #[.int .i64 p, .int .i64 q, .int .i64 r, .int .i64 s]] w fun e w' => e = .returned (withN x p q r s).v ∧ Below w.heap.size w w' := by
  obtain ⟨k, me, a, b, c, t, cut⟩ := x
  unfold withN Ac.v Ac.cells
  go_enter Tryd.func24, Tryd.ntmps24
  go_upto_region 1 with fail
  go_region
  go_wp2_with fail
  refine bodyPost_ret (v := .agg #[.int .i64 k, .int .i64 p, .int .i64 q, .int .i64 r, .int .i64 s, .string t, .int .i64 cut]) (by simp [results, Tryd.results24, go_sem]) rfl ⟨rfl, ?_⟩
  repeat (first | exact Below.refl _ _ | refine Below.drew ?_ | refine bel_drew ?_ _ | refine Below.alloc ?_ (by simp <;> omega) _)

end Go.Proofs.YtlianhienbhbgaaDoor.odr
