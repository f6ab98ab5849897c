/- The tables of tokens lie in every world of a run. -/
import Derived.Test.YtmpapnblpjnlmaaDoorMjI
import Derived.Test.YtmpapnblpjnlmaaDoorTkOpen
namespace Go.Proofs.YtmpapnblpjnlmaaDoor.met
open Go.RowKit Go.Proofs.YtmpapnblpjnlmaaDoor.token

theorem minv : Inv TTab := ⟨fun _ _ h hb => h.below hb⟩

end Go.Proofs.YtmpapnblpjnlmaaDoor.met
