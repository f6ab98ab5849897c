/- receipt.Read: what is asked of it. -/
import Derived.Test.YtlicdeppfhmfjabGreatDoorRcD
import Derived.WalkKit
import Derived.Test.YtlicdeppfhmfjabGreatDoorProg
namespace Go.Proofs.YtlicdeppfhmfjabGreatDoor.rcp
open Go.RowKit

def KrRead (w0 : World) : Prop := ∀ (W : World) (s : ByteArray), Below w0.heap.size w0 W →  Calls Tryz.prog 4 #[.string s] W fun e w' => ReadPost W s.data.toList e w'

end Go.Proofs.YtlicdeppfhmfjabGreatDoor.rcp
