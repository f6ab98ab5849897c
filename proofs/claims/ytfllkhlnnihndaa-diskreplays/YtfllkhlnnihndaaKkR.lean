/- disk.Replay: what is asked of it. -/
import Derived.Test.YtfllkhlnnihndaaDkP
import Derived.Test.YtfllkhlnnihndaaProg
namespace Go.Proofs.Ytfllkhlnnihndaa.disk
open Go.RowKit Go.Proofs.Ytfllkhlnnihndaa.cell
set_option maxRecDepth 100000
set_option linter.unusedVariables false

def KReplay : Prop := ∀ (W : World) (a : Option Addr) (n cap : Nat) (c : List Int), RowU W a n c → (a = none → cap = 0) → n ≤ cap → n * 4 ≤ 140737488351232 → (∀ x ∈ c, 0 ≤ x ∧ x < 4294967296) → Calls Try.prog 10 #[.slice a n cap] W fun e w' => RepNew W c e w'

end Go.Proofs.Ytfllkhlnnihndaa.disk
