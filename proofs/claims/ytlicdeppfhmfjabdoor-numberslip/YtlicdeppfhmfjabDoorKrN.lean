/- receipt.Number: what is asked of it. -/
import Derived.Test.YtlicdeppfhmfjabDoorRcD
import Derived.WalkKit
import Derived.Test.YtlicdeppfhmfjabDoorProg
namespace Go.Proofs.YtlicdeppfhmfjabDoor.rcp
open Go.RowKit

def KrNumber (w0 : World) : Prop := ∀ (W : World) (m : Int), Below w0.heap.size w0 W → (Lit.int .i64 m).wf = true → Calls Tryd.prog 9 #[.int .i64 m] W fun e w' => NumPost W m e w'

end Go.Proofs.YtlicdeppfhmfjabDoor.rcp
