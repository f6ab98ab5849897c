/- A pad that came in: its digits and its mark, out of its reading and back into it. -/
import Derived.Test.YtkobdkkgkpgcbaaDoorRows
import Derived.WalkKit
import Derived.ProofKit
import Derived.OpenShut
import Derived.ShutString
import Derived.Below
import Derived.Lib.SmallJoins
import Derived.Lib.LaidTab
namespace Go.Proofs.YtkobdkkgkpgcbaaDoor.keypad
open Go.ChangeShapes Go.WideShapes Go.ChangeAt Go.RowKit Go.Deep
open Go.ChangeMaps (open_string shut_string)
set_option maxRecDepth 100000

theorem open_pad {H : Type} {enc : TypeId × Value → H} {W : World} {r : Reach} {b0 b1 : Nat} {spare : Nat → Bool} {held : Bool} {v : Value} {d : DataW H} {ps : List MemPlace}
    (hval : Value.okWide Tryd.prog W r b0 23 v) (h : DataW.Trod enc Tryd.prog W b1 spare held 23 v d ps) :
    ∃ (s : ByteArray) (b : Bool), v = .agg #[.string s, .bool b] ∧ d = .agg [.lit (.string s.data.toList), .lit (.bool b)] ∧ ps = [] ∧ s.size ≤ maxLen := by
  obtain ⟨v0, v1, y0, y1, n, rfl, rfl, rfl, h0, h1⟩ := Joins.open_agg2 Tryd.underlying23 (by kernel_rfl) (by kernel_rfl) hval h
  obtain ⟨x0, e0, rfl, w0⟩ := DataW.trod_string Tryd.underlying9 h0
  obtain ⟨x1, e1, rfl⟩ := DataW.trod_bool Tryd.underlying4 h1
  simp at e0 e1
  subst e0 e1
  exact ⟨x0, x1, rfl, rfl, rfl, w0⟩

theorem shut_pad {H : Type} {enc : TypeId × Value → H} {W : World} {b1 : Nat} {spare : Nat → Bool} {held : Bool} {s : ByteArray} {b : Bool} (hw : s.size ≤ maxLen) :
    DataW.Trod enc Tryd.prog W b1 spare held 23 (.agg #[.string s, .bool b]) (.agg [.lit (.string s.data.toList), .lit (.bool b)]) [] :=
  Joins.shut_agg2 Tryd.underlying23 (by kernel_rfl) (by kernel_rfl) (Joins.field_of_Trod (shut_string Tryd.underlying9 hw) rfl) (Joins.field_of_Trod (shut_bool Tryd.underlying4 b) rfl)

end Go.Proofs.YtkobdkkgkpgcbaaDoor.keypad
