/- Nothing is asked of the worlds of a run. -/
import Derived.Test.YtmpapnblpjnlmabMjI
namespace Go.Proofs.Ytmpapnblpjnlmab.met
open Go.RowKit

def I (_ : World) : Prop := True
theorem minv : Inv I := inv_true

end Go.Proofs.Ytmpapnblpjnlmab.met
