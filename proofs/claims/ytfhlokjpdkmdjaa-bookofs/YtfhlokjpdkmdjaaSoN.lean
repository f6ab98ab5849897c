/- What was sold: plain (parted from BkP). -/
import Derived.WalkKit
namespace Go.Proofs.Ytfhlokjpdkmdjaa.book

/-- A token that was sold. -/
structure So where
  id : Int
  cl : Int
  am : Int
  tg : Int
  rv : Int
def so0 : So := ⟨0, 0, 0, 0, 0⟩

end Go.Proofs.Ytfhlokjpdkmdjaa.book
