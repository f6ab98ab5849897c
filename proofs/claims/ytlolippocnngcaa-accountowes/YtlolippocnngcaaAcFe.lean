/- A debt that came in. -/
import Derived.Test.YtlolippocnngcaaProg
import Derived.OpenShut
import Derived.Lib.SmallJoins
import Derived.WalkKit
namespace Go.Proofs.Ytlolippocnngcaa.acc
open Go.ChangeShapes Go.WideShapes Go.RowKit

theorem open_debt {H : Type} {enc : TypeId × Value → H} {W : World} {r : Reach} {b0 b1 : Nat} {spare : Nat → Bool} {held : Bool} {v : Value} {d : DataW H} {ps : List MemPlace}
    (hval : Value.okWide Try.prog W r b0 48 v) (h : DataW.Trod enc Try.prog W b1 spare held 48 v d ps) : ∃ x y, v = .agg #[.int .i64 x, .int .i64 y] ∧ (Lit.int .i64 x).wf = true ∧ (Lit.int .i64 y).wf = true := by
  obtain ⟨v0, v1, y0, y1, n, rfl, -, -, h0, h1⟩ := Joins.open_agg2 Try.underlying48 (by kernel_rfl) (by kernel_rfl) hval h
  obtain ⟨x0, q0, -, w0⟩ := DataW.trod_int Try.underlying3 h0
  obtain ⟨x1, q1, -, w1⟩ := DataW.trod_int Try.underlying3 h1
  simp at q0 q1
  subst q0 q1
  exact ⟨x0, x1, rfl, w0, w1⟩

end Go.Proofs.Ytlolippocnngcaa.acc
