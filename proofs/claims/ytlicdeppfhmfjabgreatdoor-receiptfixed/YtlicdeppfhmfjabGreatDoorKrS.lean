/- receipt.Show: what is asked of it. -/
import Derived.Test.YtlicdeppfhmfjabGreatDoorRcD
import Derived.WalkKit
import Derived.Test.YtlicdeppfhmfjabGreatDoorProg
namespace Go.Proofs.YtlicdeppfhmfjabGreatDoor.rcp
open Go.RowKit

def KrShow (w0 : World) : Prop := ∀ (W : World) (r : Rc), Below w0.heap.size w0 W → wf8 r → Calls Tryz.prog 5 #[r.v] W fun e w' => ShowPost W r e w'

end Go.Proofs.YtlicdeppfhmfjabGreatDoor.rcp
