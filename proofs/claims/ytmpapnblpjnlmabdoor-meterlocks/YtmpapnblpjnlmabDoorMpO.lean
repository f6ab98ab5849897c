/- The program's bodies and its issuing, as the statements of meters want them. -/
import Derived.Test.YtmpapnblpjnlmabDoorTkBodyP
import Derived.Test.YtmpapnblpjnlmabDoorOrPi
import Derived.Test.YtmpapnblpjnlmabDoorMjY
import Derived.Test.YtmpapnblpjnlmabDoorMjO
namespace Go.Proofs.YtmpapnblpjnlmabDoor.met
open Go.RowKit Go.Proofs.YtmpapnblpjnlmabDoor.ora Go.Proofs.YtmpapnblpjnlmabDoor.token

theorem kbody : KBody TTab := fun W k ht hk => body_ok k W ht hk
theorem kissue : KIssue TTab := fun W a n cap l m r b d _ hc _ => (poi a n cap l m r b d W hc.row).mono fun _ _ h => h.near

end Go.Proofs.YtmpapnblpjnlmabDoor.met
