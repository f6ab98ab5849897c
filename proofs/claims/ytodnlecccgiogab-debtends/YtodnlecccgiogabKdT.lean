/- debt.Total: what is asked of it. -/
import Derived.Test.YtodnlecccgiogabDbD
import Derived.WalkKit
import Derived.Test.YtodnlecccgiogabProg
namespace Go.Proofs.Ytodnlecccgiogab.deb
open Go.Proofs.Ytodnlecccgiogab.tar (Du du0 Came TwoPost)
open Go.RowKit

def KdTotal : Prop := ∀ (W : World) (a : Option Addr) (len cap : Nat) (ls : List Du), Came W a len cap ls → Calls Try.prog 11 #[.slice a len cap] W fun e w' => TwoPost W (OwedIs ls) e w'

end Go.Proofs.Ytodnlecccgiogab.deb
