/- The program's bodies and its issuing, as the statements of meters want them. -/
import Derived.Test.YtmpapnblpjnlmacDoorTkBodyP
import Derived.Test.YtmpapnblpjnlmacDoorOrPi
import Derived.Test.YtmpapnblpjnlmacDoorMjY
import Derived.Test.YtmpapnblpjnlmacDoorMjO
namespace Go.Proofs.YtmpapnblpjnlmacDoor.met
open Go.RowKit Go.Proofs.YtmpapnblpjnlmacDoor.ora Go.Proofs.YtmpapnblpjnlmacDoor.token

theorem kbody : KBody TTab := fun W k ht hk => body_ok k W ht hk
theorem kissue : KIssue TTab := fun W a n cap l m r b d _ hc _ => (poi a n cap l m r b d W hc.row).mono fun _ _ h => h.near

end Go.Proofs.YtmpapnblpjnlmacDoor.met
