/- tariff.Bill: what is asked of it. -/
import Derived.Test.YtmjjfljaelahoabTfD
import Derived.WalkKit
import Derived.Test.YtmjjfljaelahoabProg
namespace Go.Proofs.Ytmjjfljaelahoab.tar
open Go.RowKit

def KtBill : Prop := ∀ (W : World) (a : Option Addr) (len cap : Nat) (ls : List Du) (x n : Int), Came W a len cap ls → (Lit.int .i64 x).wf = true → (Lit.int .i64 n).wf = true → Calls Try.prog 9 #[.slice a len cap, .int .i64 x, .int .i64 n] W fun e w' => BillPost 36 W ls x n e w'

end Go.Proofs.Ytmjjfljaelahoab.tar
