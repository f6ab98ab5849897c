/- Raw numbers that came in. -/
import Derived.Test.YtlicdeppfhmfjaaGreatDoorTkOpen
namespace Go.Proofs.YtlicdeppfhmfjaaGreatDoor.token
open Go.ChangeShapes Go.WideShapes Go.ChangeAt Go.RowKit Go.Deep
set_option maxRecDepth 100000

theorem open_raw {H : Type} {enc : TypeId × Value → H} {W : World} {r : Reach} {b0 b1 : Nat} {spare : Nat → Bool} {held : Bool} {v : Value} {d : DataW H} {ps : List MemPlace}
    (hval : Value.okWide Tryz.prog W r b0 34 v) (h : DataW.Trod enc Tryz.prog W b1 spare held 34 v d ps) :
    ∃ x y z u, v = .agg #[.int .i64 x, .int .i64 y, .int .i64 z, .int .i64 u] ∧ d = .agg [.lit (.int .i64 x), .lit (.int .i64 y), .lit (.int .i64 z), .lit (.int .i64 u)] ∧ ps = [] ∧ wf4 x y z u := by
  obtain ⟨v0, v1, v2, v3, y0, y1, y2, y3, n, rfl, rfl, rfl, h0, h1, h2, h3⟩ := Joins.open_agg4 Tryz.underlying34 (by kernel_rfl) (by kernel_rfl) hval h
  obtain ⟨x0, e0, rfl, w0⟩ := DataW.trod_int Tryz.underlying3 h0
  obtain ⟨x1, e1, rfl, w1⟩ := DataW.trod_int Tryz.underlying3 h1
  obtain ⟨x2, e2, rfl, w2⟩ := DataW.trod_int Tryz.underlying3 h2
  obtain ⟨x3, e3, rfl, w3⟩ := DataW.trod_int Tryz.underlying3 h3
  simp at e0 e1 e2 e3
  subst e0 e1 e2 e3
  exact ⟨x0, x1, x2, x3, rfl, rfl, rfl, w0, w1, w2, w3⟩
theorem shut_raw {H : Type} {enc : TypeId × Value → H} {W : World} {b1 : Nat} {spare : Nat → Bool} {held : Bool} {x y z u : Int} (hw : wf4 x y z u) :
    DataW.Trod enc Tryz.prog W b1 spare held 34 (.agg #[.int .i64 x, .int .i64 y, .int .i64 z, .int .i64 u]) (.agg [.lit (.int .i64 x), .lit (.int .i64 y), .lit (.int .i64 z), .lit (.int .i64 u)]) [] :=
  Joins.shut_agg4 Tryz.underlying34 (by kernel_rfl) (by kernel_rfl) (int_field hw.1) (int_field hw.2.1) (int_field hw.2.2.1) (int_field hw.2.2.2)

end Go.Proofs.YtlicdeppfhmfjaaGreatDoor.token
