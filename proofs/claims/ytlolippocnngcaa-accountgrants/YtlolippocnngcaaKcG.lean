/- account.Grant: what is asked of it. -/
import Derived.Test.YtlolippocnngcaaAcD
import Derived.WalkKit
import Derived.Test.YtlolippocnngcaaProg
namespace Go.Proofs.Ytlolippocnngcaa.acc
open Go.Proofs.Ytlolippocnngcaa.tar (Du)
open Go.RowKit

def KcGrant : Prop := ∀ (W : World) (x : Ac) (p : Option Addr) (len cap : Nat) (t : Tm) (pt : Option Addr) (lt ct : Nat) (m : Int), ACame W x p len cap → TCame W t pt lt ct → (Lit.int .i64 m).wf = true → Calls Try.prog 21 #[x.v p len cap, t.v pt lt ct, .int .i64 m] W fun e w' => BPost W (GrantIs x t m) e w'

end Go.Proofs.Ytlolippocnngcaa.acc
