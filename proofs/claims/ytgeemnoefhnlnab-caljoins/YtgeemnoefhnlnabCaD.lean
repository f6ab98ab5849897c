/- What the five of the calendar give back. -/
import Derived.Test.YtgeemnoefhnlnabCaN
import Derived.Test.YtgeemnoefhnlnabBlk
import Derived.Below
namespace Go.Proofs.Ytgeemnoefhnlnab.cal
open Go.RowKit

def DayPost (w : World) (y m d : Int) (e : Ending) (w' : World) : Prop := ∃ x f, e = .returned (.tuple #[.int .i64 x, .int .i64 f]) ∧ DayIs y m d x f ∧ Below w.heap.size w w'
def DatePost (w : World) (day : Int) (e : Ending) (w' : World) : Prop := ∃ y m d f, e = .returned (.tuple #[.agg #[.int .i64 y, .int .i64 m, .int .i64 d], .int .i64 f]) ∧ DateIs day y m d f ∧ Below w.heap.size w w'
def MonPost (w : World) (day : Int) (e : Ending) (w' : World) : Prop := ∃ x f, e = .returned (.tuple #[.int .i64 x, .int .i64 f]) ∧ MonIs day x f ∧ Below w.heap.size w w'
def SpanPost (w : World) (mo : Int) (e : Ending) (w' : World) : Prop := ∃ x y f, e = .returned (.tuple #[.int .i64 x, .int .i64 y, .int .i64 f]) ∧ SpanIs mo x y f ∧ Below w.heap.size w w'
def WeekPost (w : World) (day : Int) (e : Ending) (w' : World) : Prop := ∃ x f, e = .returned (.tuple #[.int .i64 x, .int .i64 f]) ∧ WeekIs day x f ∧ Below w.heap.size w w'

end Go.Proofs.Ytgeemnoefhnlnab.cal
