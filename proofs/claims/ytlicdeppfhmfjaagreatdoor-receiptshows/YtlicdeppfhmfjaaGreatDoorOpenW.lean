/- A wide number that came in: its three words, out of its reading and back into it. -/
import Derived.Test.YtlicdeppfhmfjaaGreatDoorRows
import Derived.WalkKit
import Derived.ProofKit
import Derived.OpenShut
import Derived.Below
import Derived.Laws.IdiomArrays
namespace Go.Proofs.YtlicdeppfhmfjaaGreatDoor.words
open Go.ChangeShapes Go.WideShapes Go.ChangeAt Go.RowKit
set_option maxRecDepth 100000

theorem cells_word : Tryz.prog.cellsOf 83 = 1 := by kernel_rfl
theorem cells_wide : Tryz.prog.cellsOf 85 = 3 := by kernel_rfl

theorem list3 {α : Type} (l : List α) (h : (⟨l⟩ : Array α).size = 3) : ∃ a b c, l = [a, b, c] := by
  match l, h with
  | [a, b, c], _ => exact ⟨a, b, c, rfl⟩

theorem open_wide {H : Type} {enc : TypeId × Value → H} {W : World} {r : Reach} {b0 b1 : Nat} {spare : Nat → Bool} {held : Bool} {v : Value} {d : DataW H} {ps : List MemPlace}
    (hval : Value.okWide Tryz.prog W r b0 85 v) (h : DataW.Trod enc Tryz.prog W b1 spare held 85 v d ps) :
    ∃ x y z, v = .agg #[.int .u32 x, .int .u32 y, .int .u32 z] ∧ d = .agg [.lit (.int .u32 x), .lit (.int .u32 y), .lit (.int .u32 z)] ∧ ps = [] ∧
      ((Lit.int .u32 x).wf = true ∧ (Lit.int .u32 y).wf = true ∧ (Lit.int .u32 z).wf = true) := by
  obtain ⟨cs, rfl, hsz, _⟩ : ∃ cs, v = .agg cs ∧ cs.size = Tryz.prog.cellsOf 85 ∧ Row.okWide Tryz.prog W r b0 85 cs := by
    simpa [Value.okWide, Tryz.underlying85] using hval
  rw [cells_wide] at hsz
  obtain ⟨l⟩ := cs
  obtain ⟨c0, c1, c2, rfl⟩ := list3 l hsz
  obtain ⟨fuel, hf⟩ := h
  obtain ⟨y0, y1, y2, m, hx, hy0, hy1, hy2⟩ := trod_array3 Tryz.underlying85 cells_word hf
  obtain ⟨x0, e0, rfl, w0⟩ := DataW.trod_int Tryz.underlying83 hy0
  obtain ⟨x1, e1, rfl, w1⟩ := DataW.trod_int Tryz.underlying83 hy1
  obtain ⟨x2, e2, rfl, w2⟩ := DataW.trod_int Tryz.underlying83 hy2
  simp at e0 e1 e2
  subst e0 e1 e2
  simp only [Prod.mk.injEq] at hx
  obtain ⟨rfl, rfl⟩ := hx
  exact ⟨x0, x1, x2, rfl, rfl, rfl, w0, w1, w2⟩

theorem shut_wide {H : Type} {enc : TypeId × Value → H} {W : World} {b1 : Nat} {spare : Nat → Bool} {held : Bool} {x y z : Int}
    (hw : (Lit.int .u32 x).wf = true ∧ (Lit.int .u32 y).wf = true ∧ (Lit.int .u32 z).wf = true) :
    DataW.Trod enc Tryz.prog W b1 spare held 85 (.agg #[.int .u32 x, .int .u32 y, .int .u32 z]) (.agg [.lit (.int .u32 x), .lit (.int .u32 y), .lit (.int .u32 z)]) [] :=
  ⟨2, by simp [DataW.trod, Value.cells, Tryz.underlying85, Tryz.underlying83, cells_wide, cells_word, hw.1, hw.2.1, hw.2.2, show List.range 3 = [0, 1, 2] from rfl]⟩

end Go.Proofs.YtlicdeppfhmfjaaGreatDoor.words
