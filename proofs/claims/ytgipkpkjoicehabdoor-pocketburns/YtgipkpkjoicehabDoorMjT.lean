/- What the program's tick does. -/
import Derived.Test.YtgipkpkjoicehabDoorMtD
import Derived.Test.YtgipkpkjoicehabDoorMjI
namespace Go.Proofs.YtgipkpkjoicehabDoor.met
open Go.RowKit
set_option maxRecDepth 100000
set_option linter.unusedVariables false
set_option linter.unusedSimpArgs false

def KTick (I : World → Prop) : Prop := ∀ W (m : Mt) ld, I W → m.b < 18446744073709551616 → Calls Tryd.prog 16 #[m.v, .int .i64 ld] W fun e w' => TickPost W m ld e w'

end Go.Proofs.YtgipkpkjoicehabDoor.met
