/- What the program's reading does. -/
import Derived.Test.YtgipkpkjoicehabDoorMtDW
import Derived.Test.YtgipkpkjoicehabDoorMjI
namespace Go.Proofs.YtgipkpkjoicehabDoor.met
open Go.RowKit Go.Proofs.YtgipkpkjoicehabDoor.cell
set_option maxRecDepth 100000
set_option linter.unusedVariables false
set_option linter.unusedSimpArgs false

def KRead (I : World → Prop) : Prop := ∀ W a n cap l, I W → RowU W a n l → (a = none → cap = 0) → (∀ x ∈ l, 0 ≤ x ∧ x < 4294967296) → Calls Tryd.prog 15 #[.slice a n cap] W fun e w' => ReadPost W l e w'

end Go.Proofs.YtgipkpkjoicehabDoor.met
