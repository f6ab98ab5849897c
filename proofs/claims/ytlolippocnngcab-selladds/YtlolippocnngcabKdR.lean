/- debt.Recover: what is asked of it. -/
import Derived.Test.YtlolippocnngcabDbD
import Derived.WalkKit
import Derived.Test.YtlolippocnngcabProg
namespace Go.Proofs.Ytlolippocnngcab.deb
open Go.Proofs.Ytlolippocnngcab.tar (Du du0 Came TwoPost)
open Go.RowKit

def KdRec : Prop := ∀ (W : World) (a : Option Addr) (len cap : Nat) (ls : List Du) (t bp : Int), Came W a len cap ls → (Lit.int .i64 t).wf = true → (Lit.int .i64 bp).wf = true → Calls Try.prog 18 #[.slice a len cap, .int .i64 t, .int .i64 bp] W fun e w' => RecPost W ls t bp e w'

end Go.Proofs.Ytlolippocnngcab.deb
