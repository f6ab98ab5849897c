/- account.Grant: what is asked of it. -/
import Derived.Test.YtlolippocnngcabAcD
import Derived.WalkKit
import Derived.Test.YtlolippocnngcabProg
namespace Go.Proofs.Ytlolippocnngcab.acc
open Go.Proofs.Ytlolippocnngcab.tar (Du)
open Go.RowKit

def KcGrant : Prop := ∀ (W : World) (x : Ac) (p : Option Addr) (len cap : Nat) (t : Tm) (pt : Option Addr) (lt ct : Nat) (m : Int), ACame W x p len cap → TCame W t pt lt ct → (Lit.int .i64 m).wf = true → Calls Try.prog 23 #[x.v p len cap, t.v pt lt ct, .int .i64 m] W fun e w' => BPost W (GrantIs x t m) e w'

end Go.Proofs.Ytlolippocnngcab.acc
