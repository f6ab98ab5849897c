/- debt.Total: what is asked of it. -/
import Derived.Test.YtodnlecccgiogaaDbD
import Derived.WalkKit
import Derived.Test.YtodnlecccgiogaaProg
namespace Go.Proofs.Ytodnlecccgiogaa.deb
open Go.Proofs.Ytodnlecccgiogaa.tar (Du du0 Came TwoPost)
open Go.RowKit

def KdTotal : Prop := ∀ (W : World) (a : Option Addr) (len cap : Nat) (ls : List Du), Came W a len cap ls → Calls Try.prog 10 #[.slice a len cap] W fun e w' => TwoPost W (OwedIs ls) e w'

end Go.Proofs.Ytodnlecccgiogaa.deb
