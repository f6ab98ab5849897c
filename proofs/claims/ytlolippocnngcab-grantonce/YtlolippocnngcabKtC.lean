/- tariff.Check: what is asked of it. -/
import Derived.Test.YtlolippocnngcabTfD
import Derived.WalkKit
import Derived.Test.YtlolippocnngcabProg
namespace Go.Proofs.Ytlolippocnngcab.tar
open Go.RowKit

def KtCheck : Prop := ∀ (W : World) (a : Option Addr) (len cap : Nat) (ls : List Du), Came W a len cap ls → Calls Try.prog 53 #[.slice a len cap] W fun e w' => ErrPost W (FaultIs ls) e w'

end Go.Proofs.Ytlolippocnngcab.tar
