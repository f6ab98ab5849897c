/- account.Roll: what is asked of it. -/
import Derived.Test.YtlolippocnngcabAcD
import Derived.WalkKit
import Derived.Test.YtlolippocnngcabProg
namespace Go.Proofs.Ytlolippocnngcab.acc
open Go.Proofs.Ytlolippocnngcab.tar (Du)
open Go.RowKit

def KcRoll : Prop := ∀ (W : World) (x : Ac) (p : Option Addr) (len cap : Nat) (m : Int), ACame W x p len cap → (Lit.int .i64 m).wf = true → Calls Try.prog 17 #[x.v p len cap, .int .i64 m] W fun e w' => APost W (RollIs x m) e w'

end Go.Proofs.Ytlolippocnngcab.acc
