/- Sums of digits: plain facts. -/
import Derived.Test.YtnhidiefchamlaaDoorCkTxt
import Derived.Test.YtnhidiefchamlaaDoorCkRv
import Derived.Test.YtnhidiefchamlaaDoorChk
namespace Go.Proofs.YtnhidiefchamlaaDoor.check
open Go.RowKit

/-- The sum of a text whose last digit stands at a place (P3.3). -/
def sumR (l : List UInt8) (last : Nat) : Nat := foldN last 0 (digs l).reverse
/-- What P3.4 says. -/
def digitR (l : List UInt8) : Int := if flawR l = 0 then ((invN (sumR l 1) : Nat) : Int) else 0
/-- What P3.5 says. -/
def goodR (l : List UInt8) : Bool := decide (2 ≤ l.length) && (flawR l == 0) && (sumR l 0 == 0)
theorem sumR_lt {l : List UInt8} (h : allD l = true) (last : Nat) : sumR l last < 10 := foldN_lt _ _ _ (by decide) (digs_ok h).rev

end Go.Proofs.YtnhidiefchamlaaDoor.check
