/- tariff.Price: what is asked of it. -/
import Derived.Test.YtlolippocnngcabTfD
import Derived.WalkKit
import Derived.Test.YtlolippocnngcabProg
namespace Go.Proofs.Ytlolippocnngcab.tar
open Go.RowKit

def KtPrice : Prop := ∀ (W : World) (a : Option Addr) (len cap : Nat) (ls : List Du) (x n : Int), Came W a len cap ls → (Lit.int .i64 x).wf = true → (Lit.int .i64 n).wf = true → Calls Try.prog 20 #[.slice a len cap, .int .i64 x, .int .i64 n] W fun e w' => TwoPost W (PriceIs ls x n) e w'

end Go.Proofs.Ytlolippocnngcab.tar
