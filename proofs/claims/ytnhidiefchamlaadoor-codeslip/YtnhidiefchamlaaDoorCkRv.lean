/- Digits turned round. -/
import Derived.Test.YtnhidiefchamlaaDoorChk
import Derived.WalkKit
import Derived.Lib.OthersKept
namespace Go.Proofs.YtnhidiefchamlaaDoor.check
open Go.RowKit

theorem AllD.rev {l : List Nat} (h : AllD l) : AllD l.reverse := fun d hd => h d (by simpa using hd)

end Go.Proofs.YtnhidiefchamlaaDoor.check
