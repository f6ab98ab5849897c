/- disk.Append: what is asked of it. -/
import Derived.Test.YtfllkhlnnihndaaDkP
import Derived.Test.YtfllkhlnnihndaaProg
namespace Go.Proofs.Ytfllkhlnnihndaa.disk
open Go.RowKit Go.Proofs.Ytfllkhlnnihndaa.cell
set_option maxRecDepth 100000
set_option linter.unusedVariables false

def KAppend : Prop := ∀ (W : World) (a : Option Addr) (n cap : Nat) (c : List Int) (b : Option Addr) (m cap2 : Nat) (r : List Int), RowU W a n c → (a = none → cap = 0) → n ≤ cap → n * 4 ≤ 140737488351232 → (∀ x ∈ c, 0 ≤ x ∧ x < 4294967296) → RowU W b m r → (b = none → cap2 = 0) → m ≤ cap2 → m * 4 ≤ 140737488351232 → (∀ x ∈ r, 0 ≤ x ∧ x < 4294967296) → Calls Try.prog 14 #[.slice a n cap, .slice b m cap2] W fun e w' => AppGot W c r e w'

end Go.Proofs.Ytfllkhlnnihndaa.disk
