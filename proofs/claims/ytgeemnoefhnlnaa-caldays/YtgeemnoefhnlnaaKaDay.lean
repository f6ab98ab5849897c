/- calendar.Day: what is asked of it. -/
import Derived.Test.YtgeemnoefhnlnaaCaD
import Derived.WalkKit
import Derived.Test.YtgeemnoefhnlnaaProg
namespace Go.Proofs.Ytgeemnoefhnlnaa.cal
open Go.RowKit

def KaDay : Prop := ∀ (W : World) (y m d : Int), (Lit.int .i64 y).wf = true → (Lit.int .i64 m).wf = true → (Lit.int .i64 d).wf = true → Calls Try.prog 9 #[.agg #[.int .i64 y, .int .i64 m, .int .i64 d]] W fun e w' => DayPost W y m d e w'

end Go.Proofs.Ytgeemnoefhnlnaa.cal
