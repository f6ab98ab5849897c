/- The program's oracle. -/
import Derived.Test.YtllnafjfbmhimaaOrPi
import Derived.Test.YtllnafjfbmhimaaOrA
import Derived.Test.YtllnafjfbmhimaaOrOpenA
namespace Go.Proofs.Ytllnafjfbmhimaa.ora
open Go.RowKit
set_option maxRecDepth 100000
set_option linter.unusedVariables false

theorem okit : OKit := ⟨fun W a n cap l h => pom a n cap l W h, fun W a n cap l m r b d h _ _ => (poi a n cap l m r b d W h).mono fun _ _ h => h.post, fun W a n cap l m r b t h => pov a n cap l m r b t W h⟩

end Go.Proofs.Ytllnafjfbmhimaa.ora
