/- Slices of words: the kind. -/
import Derived.Test.YtfllkhlnnihndaaRRow
import Derived.WalkKit
import Derived.Test.YtfllkhlnnihndaaProg
namespace Go.Proofs.Ytfllkhlnnihndaa.disk
open Go.RowKit Go.Proofs.Ytfllkhlnnihndaa.cell
set_option maxRecDepth 100000
set_option linter.unusedVariables false

theorem sliT : SliT Try.prog 22 24 := ⟨by kernel_rfl, Try.underlying24⟩

end Go.Proofs.Ytfllkhlnnihndaa.disk
