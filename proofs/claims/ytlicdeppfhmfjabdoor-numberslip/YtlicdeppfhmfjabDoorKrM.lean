/- receipt.Meter: what is asked of it. -/
import Derived.Test.YtlicdeppfhmfjabDoorRcD
import Derived.WalkKit
import Derived.Test.YtlicdeppfhmfjabDoorProg
namespace Go.Proofs.YtlicdeppfhmfjabDoor.rcp
open Go.RowKit

def KrMeter (w0 : World) : Prop := ∀ (W : World) (s : ByteArray), Below w0.heap.size w0 W →  Calls Tryd.prog 10 #[.string s] W fun e w' => MeterPost W s.data.toList e w'

end Go.Proofs.YtlicdeppfhmfjabDoor.rcp
