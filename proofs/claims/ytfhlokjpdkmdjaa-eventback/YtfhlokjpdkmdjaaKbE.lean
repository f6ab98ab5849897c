/- book.Encode: what is asked of it. -/
import Derived.Test.YtfhlokjpdkmdjaaBkD
import Derived.Test.YtfhlokjpdkmdjaaWRow
import Derived.Below
import Derived.Test.YtfhlokjpdkmdjaaProg
namespace Go.Proofs.Ytfhlokjpdkmdjaa.book
open Go.RowKit Go.Proofs.Ytfhlokjpdkmdjaa.cell
set_option maxRecDepth 100000
set_option linter.unusedVariables false
set_option linter.unusedSimpArgs false

/-- What Encode gives back, as it reads. -/
def EncGot (w : World) (v : Ev) (e : Ending) (w' : World) : Prop := ∃ a n cap ws f, e = .returned (.tuple #[.slice a n cap, .int .i64 f]) ∧ EncIs v ws f ∧ RowU w' a n ws ∧ (a = none → cap = 0) ∧ n ≤ cap ∧ n ≤ 13 ∧ Below w.heap.size w w'
theorem enc_len {v : Ev} {ws : List Int} {f : Int} (h : EncIs v ws f) : ws.length ≤ 13 := by
  rcases h with ⟨_, rfl, _⟩ | ⟨_, rfl, _⟩
  · exact Nat.le_refl _
  · exact Nat.zero_le _
def KEnc : Prop := ∀ (W : World) (v : Ev), wf13 v → Calls Try.prog 9 #[v.v] W fun e w' => EncGot W v e w'

end Go.Proofs.Ytfhlokjpdkmdjaa.book
