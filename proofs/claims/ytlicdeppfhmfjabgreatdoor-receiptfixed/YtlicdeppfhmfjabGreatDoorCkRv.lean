/- Digits turned round. -/
import Derived.Test.YtlicdeppfhmfjabGreatDoorChk
import Derived.WalkKit
import Derived.Lib.OthersKept
namespace Go.Proofs.YtlicdeppfhmfjabGreatDoor.check
open Go.RowKit

theorem AllD.rev {l : List Nat} (h : AllD l) : AllD l.reverse := fun d hd => h d (by simpa using hd)

end Go.Proofs.YtlicdeppfhmfjabGreatDoor.check
