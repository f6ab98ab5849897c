/- readback.Read: what is asked of it. -/
import Derived.Test.YtnhidiefchamlaaDoorCdD
import Derived.Test.YtnhidiefchamlaaDoorProg
import Derived.WalkKit
import Derived.Deep.DeepCutAuto
namespace Go.Proofs.YtnhidiefchamlaaDoor.cod
open Go.Proofs.YtnhidiefchamlaaDoor.met (Mt)
open Go.RowKit
set_option maxRecDepth 100000
set_option linter.unusedVariables false
set_option linter.unusedSimpArgs false

def KoRead (w0 : World) : Prop := ∀ (W : World) (s : ByteArray), Below w0.heap.size w0 W → Calls Tryd.prog 9 #[.string s] W fun e w' => UncPost W s.data.toList e w'

end Go.Proofs.YtnhidiefchamlaaDoor.cod
