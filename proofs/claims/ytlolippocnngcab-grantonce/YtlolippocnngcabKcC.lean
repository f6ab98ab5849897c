/- account.Check: what is asked of it. -/
import Derived.Test.YtlolippocnngcabAcD
import Derived.WalkKit
import Derived.Test.YtlolippocnngcabProg
namespace Go.Proofs.Ytlolippocnngcab.acc
open Go.Proofs.Ytlolippocnngcab.tar (Du)
open Go.RowKit

def KcCheck : Prop := ∀ (W : World) (t : Tm) (pt : Option Addr) (lt ct : Nat), TCame W t pt lt ct → Calls Try.prog 56 #[t.v pt lt ct] W fun e w' => tar.ErrPost W (TFault t) e w'

end Go.Proofs.Ytlolippocnngcab.acc
