/- account.Owe: what is asked of it. -/
import Derived.Test.YtlolippocnngcaaAcD
import Derived.WalkKit
import Derived.Test.YtlolippocnngcaaProg
namespace Go.Proofs.Ytlolippocnngcaa.acc
open Go.Proofs.Ytlolippocnngcaa.tar (Du)
open Go.RowKit

def KcOwe : Prop := ∀ (W : World) (x : Ac) (p : Option Addr) (len cap : Nat) (q : Du), ACame W x p len cap → (Lit.int .i64 q.a).wf = true ∧ (Lit.int .i64 q.b).wf = true → Calls Try.prog 23 #[x.v p len cap, .agg #[.int .i64 q.a, .int .i64 q.b]] W fun e w' => APost W (OweIs x q) e w'

end Go.Proofs.Ytlolippocnngcaa.acc
