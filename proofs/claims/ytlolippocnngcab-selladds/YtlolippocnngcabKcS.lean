/- account.Sell: what is asked of it. -/
import Derived.Test.YtlolippocnngcabAcD
import Derived.WalkKit
import Derived.Test.YtlolippocnngcabProg
namespace Go.Proofs.Ytlolippocnngcab.acc
open Go.Proofs.Ytlolippocnngcab.tar (Du)
open Go.RowKit

def KcSell : Prop := ∀ (W : World) (x : Ac) (p : Option Addr) (len cap : Nat) (t : Tm) (pt : Option Addr) (lt ct : Nat) (te m : Int), ACame W x p len cap → TCame W t pt lt ct → (Lit.int .i64 te).wf = true → (Lit.int .i64 m).wf = true → Calls Try.prog 16 #[x.v p len cap, t.v pt lt ct, .int .i64 te, .int .i64 m] W fun e w' => BPost W (SellIs x t te m) e w'

end Go.Proofs.Ytlolippocnngcab.acc
