/- What the program's issuing does. -/
import Derived.Test.YtmpapnblpjnlmabDoorMtI
import Derived.Test.YtmpapnblpjnlmabDoorMjI
namespace Go.Proofs.YtmpapnblpjnlmabDoor.met
open Go.RowKit Go.Proofs.YtmpapnblpjnlmabDoor.ora
set_option maxRecDepth 100000
set_option linter.unusedVariables false
set_option linter.unusedSimpArgs false

def KIssue (I : World → Prop) : Prop := ∀ W a n cap l m r b d, I W → Came W a n cap l → Alive W a → Calls Tryd.prog 15 #[.agg #[.slice a n cap], .int .i64 m, .int .i64 r, .int .i64 b, .int .i64 d] W fun e w' => IssueP W a l m r b d e w'

end Go.Proofs.YtmpapnblpjnlmabDoor.met
