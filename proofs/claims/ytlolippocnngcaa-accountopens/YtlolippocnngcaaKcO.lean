/- account.Open: what is asked of it. -/
import Derived.Test.YtlolippocnngcaaAcD
import Derived.WalkKit
import Derived.Test.YtlolippocnngcaaProg
namespace Go.Proofs.Ytlolippocnngcaa.acc
open Go.Proofs.Ytlolippocnngcaa.tar (Du)
open Go.RowKit

def KcOpen : Prop := ∀ (W : World) (m : Int), (Lit.int .i64 m).wf = true → Calls Try.prog 13 #[.int .i64 m] W fun e w' => APost W (OpenIs m) e w'

end Go.Proofs.Ytlolippocnngcaa.acc
