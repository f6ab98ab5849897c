/- account.Check: what is asked of it. -/
import Derived.Test.YtlolippocnngcaaAcD
import Derived.WalkKit
import Derived.Test.YtlolippocnngcaaProg
namespace Go.Proofs.Ytlolippocnngcaa.acc
open Go.Proofs.Ytlolippocnngcaa.tar (Du)
open Go.RowKit

def KcCheck : Prop := ∀ (W : World) (t : Tm) (pt : Option Addr) (lt ct : Nat), TCame W t pt lt ct → Calls Try.prog 10 #[t.v pt lt ct] W fun e w' => tar.ErrPost W (TFault t) e w'

end Go.Proofs.Ytlolippocnngcaa.acc
