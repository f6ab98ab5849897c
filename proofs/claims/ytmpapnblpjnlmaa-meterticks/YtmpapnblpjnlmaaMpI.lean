/- Nothing is asked of the worlds of a run. -/
import Derived.Test.YtmpapnblpjnlmaaMjI
namespace Go.Proofs.Ytmpapnblpjnlmaa.met
open Go.RowKit

def I (_ : World) : Prop := True
theorem minv : Inv I := inv_true

end Go.Proofs.Ytmpapnblpjnlmaa.met
