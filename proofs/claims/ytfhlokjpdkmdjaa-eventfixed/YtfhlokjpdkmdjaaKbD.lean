/- book.Decode: what is asked of it. -/
import Derived.Test.YtfhlokjpdkmdjaaBkD
import Derived.Test.YtfhlokjpdkmdjaaWRow
import Derived.Below
import Derived.Test.YtfhlokjpdkmdjaaProg
namespace Go.Proofs.Ytfhlokjpdkmdjaa.book
open Go.RowKit Go.Proofs.Ytfhlokjpdkmdjaa.cell
set_option maxRecDepth 100000
set_option linter.unusedVariables false
set_option linter.unusedSimpArgs false

/-- What Decode gives back. -/
def DecGot (w : World) (l : List Int) (e : Ending) (w' : World) : Prop := ∃ v f, e = .returned (.tuple #[Ev.v v, .int .i64 f]) ∧ DecIs l v f ∧ Below w.heap.size w w'
def KDec : Prop := ∀ (W : World) (a : Option Addr) (n cap : Nat) (l : List Int), RowU W a n l → (a = none → cap = 0) → n ≤ cap → n * 4 ≤ 140737488351232 → (∀ x ∈ l, 0 ≤ x ∧ x < 4294967296) → Calls Try.prog 13 #[.slice a n cap] W fun e w' => DecGot W l e w'

end Go.Proofs.Ytfhlokjpdkmdjaa.book
