/- debt.Total: what is asked of it. -/
import Derived.Test.YtlolippocnngcacDbD
import Derived.WalkKit
import Derived.Test.YtlolippocnngcacProg
namespace Go.Proofs.Ytlolippocnngcac.deb
open Go.Proofs.Ytlolippocnngcac.tar (Du du0 Came TwoPost)
open Go.RowKit

def KdTotal : Prop := ∀ (W : World) (a : Option Addr) (len cap : Nat) (ls : List Du), Came W a len cap ls → Calls Try.prog 16 #[.slice a len cap] W fun e w' => TwoPost W (OwedIs ls) e w'

end Go.Proofs.Ytlolippocnngcac.deb
