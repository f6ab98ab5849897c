/- Rows of what was sold, and books. -/
import Derived.Test.YtfhlokjpdkmdjaaBkP
import Derived.Test.YtfhlokjpdkmdjaaSoR
import Derived.Test.YtfhlokjpdkmdjaaWRow
namespace Go.Proofs.Ytfhlokjpdkmdjaa.book
open Go.RowKit
set_option maxRecDepth 100000
set_option linter.unusedVariables false
set_option linter.unusedSimpArgs false


end Go.Proofs.Ytfhlokjpdkmdjaa.book
