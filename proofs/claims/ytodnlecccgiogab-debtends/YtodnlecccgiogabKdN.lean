/- debt.Times: what is asked of it. -/
import Derived.Test.YtodnlecccgiogabDbD
import Derived.WalkKit
import Derived.Test.YtodnlecccgiogabProg
namespace Go.Proofs.Ytodnlecccgiogab.deb
open Go.Proofs.Ytodnlecccgiogab.tar (Du du0 Came TwoPost)
open Go.RowKit

def KdTimes : Prop := ∀ (W : World) (a : Option Addr) (len cap : Nat) (ls : List Du) (t bp : Int), Came W a len cap ls → (Lit.int .i64 t).wf = true → (Lit.int .i64 bp).wf = true → Calls Try.prog 9 #[.slice a len cap, .int .i64 t, .int .i64 bp] W fun e w' => TwoPost W (TimesIs ls t bp) e w'

end Go.Proofs.Ytodnlecccgiogab.deb
