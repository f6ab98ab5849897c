/- readback.Code: what is asked of it. -/
import Derived.Test.YtnhidiefchamlaaDoorCdD
import Derived.Test.YtnhidiefchamlaaDoorProg
import Derived.WalkKit
import Derived.Deep.DeepCutAuto
namespace Go.Proofs.YtnhidiefchamlaaDoor.cod
open Go.Proofs.YtnhidiefchamlaaDoor.met (Mt)
open Go.RowKit
set_option maxRecDepth 100000
set_option linter.unusedVariables false
set_option linter.unusedSimpArgs false

def KoCode (w0 : World) : Prop := ∀ (W : World) (m : Mt), Below w0.heap.size w0 W → m.b < 18446744073709551616 → Calls Tryd.prog 7 #[m.v] W fun e w' => CodePost W m e w'

end Go.Proofs.YtnhidiefchamlaaDoor.cod
