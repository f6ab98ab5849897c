/- What the program's beginning does. -/
import Derived.Test.YtmpapnblpjnlmabDoorMtD
import Derived.Test.YtmpapnblpjnlmabDoorMjI
namespace Go.Proofs.YtmpapnblpjnlmabDoor.met
open Go.RowKit
set_option maxRecDepth 100000
set_option linter.unusedVariables false
set_option linter.unusedSimpArgs false

def KBegin (I : World → Prop) : Prop := ∀ W me, I W → Calls Tryd.prog 11 #[.int .i64 me] W fun e w' => BeginPost W me e w'

end Go.Proofs.YtmpapnblpjnlmabDoor.met
