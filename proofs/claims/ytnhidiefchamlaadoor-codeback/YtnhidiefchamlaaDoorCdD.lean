/- What the two of readback give back. -/
import Derived.Test.YtnhidiefchamlaaDoorCdN
import Derived.Test.YtnhidiefchamlaaDoorMtD
import Derived.Test.YtnhidiefchamlaaDoorBlk
import Derived.Test.YtnhidiefchamlaaDoorProg
import Derived.WalkKit
import Derived.Deep.DeepCutAuto
namespace Go.Proofs.YtnhidiefchamlaaDoor.cod
open Go.Proofs.YtnhidiefchamlaaDoor.met (Mt)
open Go.RowKit
set_option maxRecDepth 100000
set_option linter.unusedVariables false
set_option linter.unusedSimpArgs false

def Sh.cs (x : Sh) : Array Value := #[.int .i64 x.me, .int .i64 x.cr, .int .i64 x.hi]
def Sh.v (x : Sh) : Value := .agg x.cs
def CodePost (w : World) (m : Mt) (e : Ending) (w' : World) : Prop := ∃ l f, e = .returned (.tuple #[.string ⟨l.toArray⟩, .int .i64 f]) ∧ CodeIs m l f ∧ Below w.heap.size w w'
def UncPost (w : World) (l : List UInt8) (e : Ending) (w' : World) : Prop := ∃ x f, e = .returned (.tuple #[Sh.v x, .int .i64 f]) ∧ UncIs l x f ∧ Below w.heap.size w w'

end Go.Proofs.YtnhidiefchamlaaDoor.cod
