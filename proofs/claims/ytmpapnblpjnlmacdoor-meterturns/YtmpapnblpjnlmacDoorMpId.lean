/- The tables of tokens lie in every world of a run. -/
import Derived.Test.YtmpapnblpjnlmacDoorMjI
import Derived.Test.YtmpapnblpjnlmacDoorTkOpen
namespace Go.Proofs.YtmpapnblpjnlmacDoor.met
open Go.RowKit Go.Proofs.YtmpapnblpjnlmacDoor.token

theorem minv : Inv TTab := ⟨fun _ _ h hb => h.below hb⟩

end Go.Proofs.YtmpapnblpjnlmacDoor.met
