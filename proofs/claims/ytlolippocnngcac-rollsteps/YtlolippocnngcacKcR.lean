/- account.Roll: what is asked of it. -/
import Derived.Test.YtlolippocnngcacAcD
import Derived.WalkKit
import Derived.Test.YtlolippocnngcacProg
namespace Go.Proofs.Ytlolippocnngcac.acc
open Go.Proofs.Ytlolippocnngcac.tar (Du)
open Go.RowKit

def KcRoll : Prop := ∀ (W : World) (x : Ac) (p : Option Addr) (len cap : Nat) (m : Int), ACame W x p len cap → (Lit.int .i64 m).wf = true → Calls Try.prog 6 #[x.v p len cap, .int .i64 m] W fun e w' => APost W (RollIs x m) e w'

end Go.Proofs.Ytlolippocnngcac.acc
