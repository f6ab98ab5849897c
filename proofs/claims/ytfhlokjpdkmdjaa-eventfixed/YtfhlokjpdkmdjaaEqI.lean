/- Numbers compared (parted from BkE). -/
import Derived.Laws.StructEq
import Derived.WalkKit
import Derived.Test.YtfhlokjpdkmdjaaProg
namespace Go.Proofs.Ytfhlokjpdkmdjaa.book
open Go.RowKit
set_option maxRecDepth 100000

theorem eqI (d : Nat) (a b : Int) (w : World) : (Op.equalIn (d + 1) 3 (.int .i64 a) (.int .i64 b)).run Try.prog w = .ok (a == b) w := run_equalIn_int w d _ _ _ a b Try.underlying3

end Go.Proofs.Ytfhlokjpdkmdjaa.book
