/- book.Find: what is asked of it. -/
import Derived.Test.YtfhlokjpdkmdjaaBkG
import Derived.WalkKit
import Derived.Below
namespace Go.Proofs.Ytfhlokjpdkmdjaa.book
open Go.RowKit
set_option maxRecDepth 100000
set_option linter.unusedVariables false
set_option linter.unusedSimpArgs false

def FindPost (w : World) (l : List Cu) (me : Int) (e : Ending) (w' : World) : Prop := ∃ x f, e = .returned (.tuple #[.int .i64 x, .int .i64 f]) ∧ FindIs l me x f ∧ Below w.heap.size w w'
def KFind : Prop := ∀ (W : World) (p : Option Addr) (n cap : Nat) (l : List Cu) (me : Int), RowC W p n l → (p = none → cap = 0) → n ≤ cap → n ≤ 2000000 → (Lit.int .i64 me).wf = true → Calls Try.prog 21 #[.agg #[.slice p n cap], .int .i64 me] W fun e w' => FindPost W l me e w'

end Go.Proofs.Ytfhlokjpdkmdjaa.book
