/- Lines of a bill. -/
import Derived.Test.YtmjjfljaelahoabTfD
import Derived.Test.YtmjjfljaelahoabProg
import Derived.WalkKit
namespace Go.Proofs.Ytmjjfljaelahoab.tar
open Go.RowKit

theorem lineT : LineT Try.prog 36 32 := ⟨by kernel_rfl, Try.underlying32⟩

end Go.Proofs.Ytmjjfljaelahoab.tar
