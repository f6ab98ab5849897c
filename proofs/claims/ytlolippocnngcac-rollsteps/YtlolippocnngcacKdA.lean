/- debt.Age: what is asked of it. -/
import Derived.Test.YtlolippocnngcacDbD
import Derived.WalkKit
import Derived.Test.YtlolippocnngcacProg
namespace Go.Proofs.Ytlolippocnngcac.deb
open Go.Proofs.Ytlolippocnngcac.tar (Du du0 Came TwoPost)
open Go.RowKit

def KdAge : Prop := ∀ (W : World) (a : Option Addr) (len cap : Nat) (ls : List Du) (m : Int), Came W a len cap ls → (Lit.int .i64 m).wf = true → Calls Try.prog 15 #[.slice a len cap, .int .i64 m] W fun e w' => AgePost W ls m e w'

end Go.Proofs.Ytlolippocnngcac.deb
