/- calendar.Month: what is asked of it. -/
import Derived.Test.YtgeemnoefhnlnaaCaD
import Derived.WalkKit
import Derived.Test.YtgeemnoefhnlnaaProg
namespace Go.Proofs.Ytgeemnoefhnlnaa.cal
open Go.RowKit

def KaMon : Prop := ∀ (W : World) (x : Int), (Lit.int .i64 x).wf = true → Calls Try.prog 13 #[.int .i64 x] W fun e w' => MonPost W x e w'

end Go.Proofs.Ytgeemnoefhnlnaa.cal
