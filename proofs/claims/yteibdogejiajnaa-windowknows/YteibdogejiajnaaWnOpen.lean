/- A window that came in: its two numbers, out of its reading and back into it. -/
import Derived.Test.YteibdogejiajnaaRows
import Derived.WalkKit
import Derived.ProofKit
import Derived.OpenShut
import Derived.Below
import Derived.Lib.SmallJoins
namespace Go.Proofs.Yteibdogejiajnaa.win
open Go.ChangeShapes Go.WideShapes Go.ChangeAt Go.RowKit Go.Deep
set_option maxRecDepth 100000

def wfW (x : Int) (y : Nat) : Prop := (Lit.int .i64 x).wf = true ∧ (Lit.int .u64 (y : Int)).wf = true ∧ y < 18446744073709551616
theorem u64_nat {z : Int} (h : (Lit.int .u64 z).wf = true) : ∃ y : Nat, z = (y : Int) ∧ y < 18446744073709551616 := by
  have h2 : 0 ≤ z ∧ z < 18446744073709551616 := by
    simp only [Lit.wf, Bool.and_eq_true, decide_eq_true_eq] at h
    rw [show IntKind.u64.min = 0 from by decide, show IntKind.u64.max = 18446744073709551615 from by decide] at h
    omega
  exact ⟨z.toNat, by omega, by omega⟩
theorem open_win {H : Type} {enc : TypeId × Value → H} {W : World} {r : Reach} {b0 b1 : Nat} {spare : Nat → Bool} {held : Bool} {v : Value} {d : DataW H} {ps : List MemPlace}
    (hval : Value.okWide Try.prog W r b0 24 v) (h : DataW.Trod enc Try.prog W b1 spare held 24 v d ps) :
    ∃ (x : Int) (y : Nat), v = .agg #[.int .i64 x, .int .u64 (y : Int)] ∧ d = .agg [.lit (.int .i64 x), .lit (.int .u64 (y : Int))] ∧ ps = [] ∧ wfW x y := by
  obtain ⟨v0, v1, y0, y1, n, rfl, rfl, rfl, h0, h1⟩ := Joins.open_agg2 Try.underlying24 (by kernel_rfl) (by kernel_rfl) hval h
  obtain ⟨x0, e0, rfl, w0⟩ := DataW.trod_int Try.underlying3 h0
  obtain ⟨x1, e1, rfl, w1⟩ := DataW.trod_int Try.underlying22 h1
  simp at e0 e1
  subst e0 e1
  obtain ⟨y, rfl, hy⟩ := u64_nat w1
  exact ⟨x0, y, rfl, rfl, rfl, w0, w1, hy⟩
theorem shut_win {H : Type} {enc : TypeId × Value → H} {W : World} {b1 : Nat} {spare : Nat → Bool} {held : Bool} {x : Int} {y : Nat} (hw : wfW x y) :
    DataW.Trod enc Try.prog W b1 spare held 24 (.agg #[.int .i64 x, .int .u64 (y : Int)]) (.agg [.lit (.int .i64 x), .lit (.int .u64 (y : Int))]) [] :=
  Joins.shut_agg2 Try.underlying24 (by kernel_rfl) (by kernel_rfl) (Joins.field_of_Trod (shut_int Try.underlying3 hw.1) rfl) (Joins.field_of_Trod (shut_int Try.underlying22 hw.2.1) rfl)

end Go.Proofs.Yteibdogejiajnaa.win
