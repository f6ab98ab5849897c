/- What the program's oracle does. -/
import Derived.Test.YtllnafjfbmhimaaOrD
namespace Go.Proofs.Ytllnafjfbmhimaa.ora
open Go.RowKit
set_option maxRecDepth 100000
set_option linter.unusedVariables false

/-- What the program's oracle does. -/
structure OKit : Prop where
  may : ∀ W a n cap l, RowP W a n l → Calls Try.prog 9 #[.agg #[.slice a n cap]] W fun e w' => Told W (May l) e w'
  issue : ∀ W a n cap l m r b d, RowP W a n l → (a = none → cap = 0) → n ≤ cap → Calls Try.prog 12 #[.agg #[.slice a n cap], .int .i64 m, .int .i64 r, .int .i64 b, .int .i64 d] W fun e w' => IssuePost W l m r b d e w'
  verify : ∀ W a n cap l m r b t, RowP W a n l → Calls Try.prog 14 #[.agg #[.slice a n cap], .int .i64 m, .int .i64 r, .int .i64 b, .int .i64 t] W fun e w' => Told W (Is l m r b t) e w'

end Go.Proofs.Ytllnafjfbmhimaa.ora
