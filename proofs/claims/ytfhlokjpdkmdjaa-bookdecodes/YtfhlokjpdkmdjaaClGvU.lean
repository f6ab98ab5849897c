/- Words that are given back. -/
import Derived.Test.YtfhlokjpdkmdjaaWRow
namespace Go.Proofs.Ytfhlokjpdkmdjaa.cell
open Go.RowKit
set_option maxRecDepth 100000

/-- Words were given back that nobody else holds. -/
def GaveU (w : World) (zs : List Int) (e : Ending) (w' : World) : Prop := ∃ v, e = .returned v ∧ Ws w' w.heap.size v zs ∧ Below w.heap.size w w'
theorem GaveU.mk {w w' : World} {zs : List Int} {v : Value} (h1 : Ws w' w.heap.size v zs) (h2 : Below w.heap.size w w') : GaveU w zs (.returned v) w' := ⟨v, rfl, h1, h2⟩

end Go.Proofs.Ytfhlokjpdkmdjaa.cell
