/- A pocket's answers. -/
import Derived.Test.YtgipkpkjoicehaaPkN
import Derived.Test.YtgipkpkjoicehaaClRow
import Derived.Test.YtgipkpkjoicehaaMtD
namespace Go.Proofs.Ytgipkpkjoicehaa.pkt
open Go.RowKit Go.Proofs.Ytgipkpkjoicehaa.met Go.Proofs.Ytgipkpkjoicehaa.slot Go.Proofs.Ytgipkpkjoicehaa.cell
set_option maxRecDepth 100000
set_option linter.unusedVariables false

/-- A meter and an answer were given back. -/
def BootPost (w : World) (xs : List Int) (e : Ending) (w' : World) : Prop := ∃ m f, e = .returned (.tuple #[Mt.v m, .int .i64 f]) ∧ BootIs xs m f ∧ Below w.heap.size w w'
/-- Writes that a step gave back. -/
structure Wg (w : World) (a : Option Addr) (n cap : Nat) (ls : List Wr) : Prop where
  row : RowW w a n ls
  nil : a = none → cap = 0
  le : n ≤ cap
  few : n ≤ 7
theorem Wg.below {w w' : World} {a : Option Addr} {n cap : Nat} {ls : List Wr} (h : Wg w a n cap ls) (hb : Below w.heap.size w w') : Wg w' a n cap ls := ⟨h.row.below hb, h.nil, h.le, h.few⟩
theorem Wg.none (w : World) : Wg w none 0 0 [] := ⟨RowW.nil _ _, fun _ => rfl, Nat.le_refl _, by decide⟩
def WritesPost (w : World) (xs : List Int) (m m' : Mt) (e : Ending) (w' : World) : Prop := ∃ a n cap ls, e = .returned (.slice a n cap) ∧ Wg w' a n cap ls ∧ WrIs xs m m' ls ∧ Below w.heap.size w w'
def TickedPost (w : World) (xs : List Int) (ld : Int) (e : Ending) (w' : World) : Prop := ∃ a n cap ls x f, e = .returned (.tuple #[.slice a n cap, .int .i64 x, .int .i64 f]) ∧ Wg w' a n cap ls ∧ TickedIs xs ld ls x f ∧ Below w.heap.size w w'
/-- Slots that came, or were made. -/
structure Sg (w : World) (a : Option Addr) (n cap : Nat) (xs : List Int) : Prop where
  row : RowU w a n xs
  nil : a = none → cap = 0
  le : n ≤ cap
theorem Sg.below {w w' : World} {a : Option Addr} {n cap : Nat} {xs : List Int} (h : Sg w a n cap xs) (hb : Below w.heap.size w w') : Sg w' a n cap xs := ⟨h.row.below hb, h.nil, h.le⟩
def MakePost (w : World) (me : Int) (e : Ending) (w' : World) : Prop := ∃ a n cap xs f, e = .returned (.tuple #[.slice a n cap, .int .i64 f]) ∧ Sg w' a n cap xs ∧ MakeIs me xs f ∧ Below w.heap.size w w'

end Go.Proofs.Ytgipkpkjoicehaa.pkt
