/- What the program's beginning does. -/
import Derived.Test.YtgipkpkjoicehaaMtD
import Derived.Test.YtgipkpkjoicehaaMjI
namespace Go.Proofs.Ytgipkpkjoicehaa.met
open Go.RowKit
set_option maxRecDepth 100000
set_option linter.unusedVariables false
set_option linter.unusedSimpArgs false

def KBegin (I : World → Prop) : Prop := ∀ W me, I W → Calls Try.prog 15 #[.int .i64 me] W fun e w' => BeginPost W me e w'

end Go.Proofs.Ytgipkpkjoicehaa.met
