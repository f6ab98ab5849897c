/- What the program's body of a token does. -/
import Derived.Test.YtmpapnblpjnlmabDoorMtD
import Derived.Test.YtmpapnblpjnlmabDoorMjI
namespace Go.Proofs.YtmpapnblpjnlmabDoor.met
open Go.RowKit Go.Proofs.YtmpapnblpjnlmabDoor.token
set_option maxRecDepth 100000
set_option linter.unusedVariables false
set_option linter.unusedSimpArgs false

def KBody (I : World → Prop) : Prop := ∀ W (k : Tok), I W → k.ok → Calls Tryd.prog 14 #[k.v] W fun e w' => e = .returned (.tuple #[.int .i64 (k.body : Int), .int .i64 0]) ∧ Below W.heap.size W w'

end Go.Proofs.YtmpapnblpjnlmabDoor.met
