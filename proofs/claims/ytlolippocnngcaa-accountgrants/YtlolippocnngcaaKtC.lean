/- tariff.Check: what is asked of it. -/
import Derived.Test.YtlolippocnngcaaTfD
import Derived.WalkKit
import Derived.Test.YtlolippocnngcaaProg
namespace Go.Proofs.Ytlolippocnngcaa.tar
open Go.RowKit

def KtCheck : Prop := ∀ (W : World) (a : Option Addr) (len cap : Nat) (ls : List Du), Came W a len cap ls → Calls Try.prog 26 #[.slice a len cap] W fun e w' => ErrPost W (FaultIs ls) e w'

end Go.Proofs.Ytlolippocnngcaa.tar
