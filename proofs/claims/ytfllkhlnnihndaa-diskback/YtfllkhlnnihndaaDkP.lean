/- What is read of disks. -/
import Derived.Test.YtfllkhlnnihndaaDkEr
import Derived.Test.YtfllkhlnnihndaaDkPn
import Derived.Test.YtfllkhlnnihndaaClRow
namespace Go.Proofs.Ytfllkhlnnihndaa.disk
open Go.RowKit Go.Proofs.Ytfllkhlnnihndaa.cell
set_option maxRecDepth 100000
set_option linter.unusedVariables false

/-- What Replay gives back, as it reads. -/
def RepGot (w : World) (c : List Int) (e : Ending) (w' : World) : Prop :=
  ∃ a n cap out x f, e = .returned (.tuple #[.slice a n cap, .int .i64 x, .int .i64 f]) ∧ Reads w' a n out ∧ n ≤ 100000 ∧ RepIs c out x f ∧ Below w.heap.size w w'
/-- The same, in new memory. -/
def RepNew (w : World) (c : List Int) (e : Ending) (w' : World) : Prop :=
  ∃ a n cap out x f, e = .returned (.tuple #[.slice a n cap, .int .i64 x, .int .i64 f]) ∧ ReadsF w' w.heap.size a n out ∧ n ≤ 100000 ∧ RepIs c out x f ∧ Below w.heap.size w w'
theorem RepNew.got {w w' : World} {c : List Int} {e : Ending} (h : RepNew w c e w') : RepGot w c e w' := by
  obtain ⟨a, n, cap, out, x, f, h1, h2, h3⟩ := h
  exact ⟨a, n, cap, out, x, f, h1, h2.reads, h3⟩
/-- What Append gives back, as it reads. -/
def AppGot (w : World) (c r : List Int) (e : Ending) (w' : World) : Prop :=
  ∃ a n cap ls f, e = .returned (.tuple #[.slice a n cap, .int .i64 f]) ∧ RowW w' a n ls ∧ (∀ x, a = some x → w.heap.size ≤ x.block) ∧ n ≤ cap ∧ n ≤ 100000 ∧ AppIs c r ls f ∧ Below w.heap.size w w'

end Go.Proofs.Ytfllkhlnnihndaa.disk
