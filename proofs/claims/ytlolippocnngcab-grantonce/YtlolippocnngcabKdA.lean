/- debt.Age: what is asked of it. -/
import Derived.Test.YtlolippocnngcabDbD
import Derived.WalkKit
import Derived.Test.YtlolippocnngcabProg
namespace Go.Proofs.Ytlolippocnngcab.deb
open Go.Proofs.Ytlolippocnngcab.tar (Du du0 Came TwoPost)
open Go.RowKit

def KdAge : Prop := ∀ (W : World) (a : Option Addr) (len cap : Nat) (ls : List Du) (m : Int), Came W a len cap ls → (Lit.int .i64 m).wf = true → Calls Try.prog 51 #[.slice a len cap, .int .i64 m] W fun e w' => AgePost W ls m e w'

end Go.Proofs.Ytlolippocnngcab.deb
