/- A date that came in. -/
import Derived.Test.YtgeemnoefhnlnaaProg
import Derived.OpenShut
import Derived.Lib.SmallJoins
import Derived.WalkKit
namespace Go.Proofs.Ytgeemnoefhnlnaa.cal
open Go.ChangeShapes Go.WideShapes Go.RowKit

def wf3i (x y z : Int) : Prop := (Lit.int .i64 x).wf = true ∧ (Lit.int .i64 y).wf = true ∧ (Lit.int .i64 z).wf = true
theorem open_date {H : Type} {enc : TypeId × Value → H} {W : World} {r : Reach} {b0 b1 : Nat} {spare : Nat → Bool} {held : Bool} {v : Value} {d : DataW H} {ps : List MemPlace}
    (hval : Value.okWide Try.prog W r b0 23 v) (h : DataW.Trod enc Try.prog W b1 spare held 23 v d ps) : ∃ x y z, v = .agg #[.int .i64 x, .int .i64 y, .int .i64 z] ∧ wf3i x y z := by
  obtain ⟨v0, v1, v2, y0, y1, y2, n, rfl, -, -, h0, h1, h2⟩ := Joins.open_agg3 Try.underlying23 (by kernel_rfl) (by kernel_rfl) hval h
  obtain ⟨x0, q0, -, w0⟩ := DataW.trod_int Try.underlying3 h0
  obtain ⟨x1, q1, -, w1⟩ := DataW.trod_int Try.underlying3 h1
  obtain ⟨x2, q2, -, w2⟩ := DataW.trod_int Try.underlying3 h2
  simp at q0 q1 q2
  subst q0 q1 q2
  exact ⟨x0, x1, x2, rfl, w0, w1, w2⟩

end Go.Proofs.Ytgeemnoefhnlnaa.cal
