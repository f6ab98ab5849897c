/- calendar.Days: what is asked of it. -/
import Derived.Test.YtgeemnoefhnlnabCaD
import Derived.WalkKit
import Derived.Test.YtgeemnoefhnlnabProg
namespace Go.Proofs.Ytgeemnoefhnlnab.cal
open Go.RowKit

def KaSpan : Prop := ∀ (W : World) (x : Int), (Lit.int .i64 x).wf = true → Calls Try.prog 8 #[.int .i64 x] W fun e w' => SpanPost W x e w'

end Go.Proofs.Ytgeemnoefhnlnab.cal
