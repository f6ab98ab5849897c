/- calendar.Weekday: what is asked of it. -/
import Derived.Test.YtgeemnoefhnlnabCaD
import Derived.WalkKit
import Derived.Test.YtgeemnoefhnlnabProg
namespace Go.Proofs.Ytgeemnoefhnlnab.cal
open Go.RowKit

def KaWeek : Prop := ∀ (W : World) (x : Int), (Lit.int .i64 x).wf = true → Calls Try.prog 10 #[.int .i64 x] W fun e w' => WeekPost W x e w'

end Go.Proofs.Ytgeemnoefhnlnab.cal
