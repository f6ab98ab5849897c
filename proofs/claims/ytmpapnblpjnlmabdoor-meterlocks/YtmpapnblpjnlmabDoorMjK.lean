/- What the program's keying does. -/
import Derived.Test.YtmpapnblpjnlmabDoorMtD
import Derived.Test.YtmpapnblpjnlmabDoorMjI
import Derived.Test.YtmpapnblpjnlmabDoorOrD
namespace Go.Proofs.YtmpapnblpjnlmabDoor.met
open Go.RowKit Go.Proofs.YtmpapnblpjnlmabDoor.ora
set_option maxRecDepth 100000
set_option linter.unusedVariables false
set_option linter.unusedSimpArgs false

def KKey (I : World → Prop) : Prop := ∀ W (m : Mt) a n cap l c i am t, I W → m.b < 18446744073709551616 → RowP W a n l → (a = none → cap = 0) → n ≤ cap → Calls Tryd.prog 9 #[m.v, .agg #[.slice a n cap], .agg #[.int .i64 c, .int .i64 i, .int .i64 am, .int .i64 t]] W fun e w' => KeyPost W m l c i am t e w'

end Go.Proofs.YtmpapnblpjnlmabDoor.met
