/- account.Rekey: what is asked of it. -/
import Derived.Test.YtlolippocnngcabAcD
import Derived.WalkKit
import Derived.Test.YtlolippocnngcabProg
namespace Go.Proofs.Ytlolippocnngcab.acc
open Go.Proofs.Ytlolippocnngcab.tar (Du)
open Go.RowKit

def KcRekey : Prop := ∀ (W : World) (x : Ac) (p : Option Addr) (len cap : Nat), ACame W x p len cap → Calls Try.prog 10 #[x.v p len cap] W fun e w' => BPost W (RekeyIs x) e w'

end Go.Proofs.Ytlolippocnngcab.acc
