/- debt.Total: what is asked of it. -/
import Derived.Test.YtlolippocnngcabDbD
import Derived.WalkKit
import Derived.Test.YtlolippocnngcabProg
namespace Go.Proofs.Ytlolippocnngcab.deb
open Go.Proofs.Ytlolippocnngcab.tar (Du du0 Came TwoPost)
open Go.RowKit

def KdTotal : Prop := ∀ (W : World) (a : Option Addr) (len cap : Nat) (ls : List Du), Came W a len cap ls → Calls Try.prog 21 #[.slice a len cap] W fun e w' => TwoPost W (OwedIs ls) e w'

end Go.Proofs.Ytlolippocnngcab.deb
