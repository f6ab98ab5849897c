/- calendar.Weekday: what is asked of it. -/
import Derived.Test.YtgeemnoefhnlnaaCaD
import Derived.WalkKit
import Derived.Test.YtgeemnoefhnlnaaProg
namespace Go.Proofs.Ytgeemnoefhnlnaa.cal
open Go.RowKit

def KaWeek : Prop := ∀ (W : World) (x : Int), (Lit.int .i64 x).wf = true → Calls Try.prog 17 #[.int .i64 x] W fun e w' => WeekPost W x e w'

end Go.Proofs.Ytgeemnoefhnlnaa.cal
