/- The tables of tokens lie in every world of a run. -/
import Derived.Test.YtmpapnblpjnlmabDoorMjI
import Derived.Test.YtmpapnblpjnlmabDoorTkOpen
namespace Go.Proofs.YtmpapnblpjnlmabDoor.met
open Go.RowKit Go.Proofs.YtmpapnblpjnlmabDoor.token

theorem minv : Inv TTab := ⟨fun _ _ h hb => h.below hb⟩

end Go.Proofs.YtmpapnblpjnlmabDoor.met
