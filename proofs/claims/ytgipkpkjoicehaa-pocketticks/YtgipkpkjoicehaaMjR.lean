/- What the program's reading does. -/
import Derived.Test.YtgipkpkjoicehaaMtDW
import Derived.Test.YtgipkpkjoicehaaMjI
namespace Go.Proofs.Ytgipkpkjoicehaa.met
open Go.RowKit Go.Proofs.Ytgipkpkjoicehaa.cell
set_option maxRecDepth 100000
set_option linter.unusedVariables false
set_option linter.unusedSimpArgs false

def KRead (I : World → Prop) : Prop := ∀ W a n cap l, I W → RowU W a n l → (a = none → cap = 0) → (∀ x ∈ l, 0 ≤ x ∧ x < 4294967296) → Calls Try.prog 20 #[.slice a n cap] W fun e w' => ReadPost W l e w'

end Go.Proofs.Ytgipkpkjoicehaa.met
