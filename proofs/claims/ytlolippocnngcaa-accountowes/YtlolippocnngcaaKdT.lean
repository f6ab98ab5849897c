/- debt.Total: what is asked of it. -/
import Derived.Test.YtlolippocnngcaaDbD
import Derived.WalkKit
import Derived.Test.YtlolippocnngcaaProg
namespace Go.Proofs.Ytlolippocnngcaa.deb
open Go.Proofs.Ytlolippocnngcaa.tar (Du du0 Came TwoPost)
open Go.RowKit

def KdTotal : Prop := ∀ (W : World) (a : Option Addr) (len cap : Nat) (ls : List Du), Came W a len cap ls → Calls Try.prog 51 #[.slice a len cap] W fun e w' => TwoPost W (OwedIs ls) e w'

end Go.Proofs.Ytlolippocnngcaa.deb
