/- One block more: nothing below it is another. -/
import Derived.WalkKit
import Derived.Below
namespace Go.Proofs.YtlicdeppfhmfjaaGreatDoor.token
open Go.RowKit
theorem bel_box (w : World) (o : Obj) : Below w.heap.size w (w.alloc o) := (Below.refl _ _).alloc (Nat.le_refl _) o
end Go.Proofs.YtlicdeppfhmfjaaGreatDoor.token
