/- What the program's words do. -/
import Derived.Test.YtnhidiefchamlaaDoorMtDW
import Derived.Test.YtnhidiefchamlaaDoorMjI
namespace Go.Proofs.YtnhidiefchamlaaDoor.met
open Go.RowKit
set_option maxRecDepth 100000
set_option linter.unusedVariables false
set_option linter.unusedSimpArgs false

def KWords (I : World → Prop) : Prop := ∀ W (m : Mt), I W → m.b < 18446744073709551616 → Calls Tryd.prog 15 #[m.v] W fun e w' => WordsPost W m e w'

end Go.Proofs.YtnhidiefchamlaaDoor.met
