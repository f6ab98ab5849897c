/- receipt.Number: what is asked of it. -/
import Derived.Test.YtlicdeppfhmfjaaDoorRcD
import Derived.WalkKit
import Derived.Test.YtlicdeppfhmfjaaDoorProg
namespace Go.Proofs.YtlicdeppfhmfjaaDoor.rcp
open Go.RowKit

def KrNumber (w0 : World) : Prop := ∀ (W : World) (m : Int), Below w0.heap.size w0 W → (Lit.int .i64 m).wf = true → Calls Tryd.prog 6 #[.int .i64 m] W fun e w' => NumPost W m e w'

end Go.Proofs.YtlicdeppfhmfjaaDoor.rcp
