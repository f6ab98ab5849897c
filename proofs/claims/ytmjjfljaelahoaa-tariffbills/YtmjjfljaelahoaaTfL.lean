/- Lines of a bill. -/
import Derived.Test.YtmjjfljaelahoaaTfD
import Derived.Test.YtmjjfljaelahoaaProg
import Derived.WalkKit
namespace Go.Proofs.Ytmjjfljaelahoaa.tar
open Go.RowKit

theorem lineT : LineT Try.prog 50 31 := ⟨by kernel_rfl, Try.underlying31⟩

end Go.Proofs.Ytmjjfljaelahoaa.tar
