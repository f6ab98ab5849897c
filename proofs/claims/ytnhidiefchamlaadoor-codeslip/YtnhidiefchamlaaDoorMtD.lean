/- Meters: their values, and what calls give back. -/
import Derived.Test.YtnhidiefchamlaaDoorMtP
import Derived.Test.YtnhidiefchamlaaDoorBlk
namespace Go.Proofs.YtnhidiefchamlaaDoor.met
open Go.RowKit Go.Proofs.YtnhidiefchamlaaDoor.ora Go.Proofs.YtnhidiefchamlaaDoor.token

/-- A meter's cells, and its value. -/
def Mt.cells (m : Mt) : Array Value := #[.int .i64 m.me, .int .i64 m.rev, .int .i64 m.cr, .int .i64 m.h, .int .u64 (m.b : Int), .int .i64 m.bad, .int .i64 m.lock]
def Mt.v (m : Mt) : Value := .agg m.cells
/-- Yes or no was told. -/
def Told (w : World) (P : Prop) (e : Ending) (w' : World) : Prop := ∃ r : Bool, e = .returned (.bool r) ∧ (r = true ↔ P) ∧ Below w.heap.size w w'
theorem Told.yes {w w' : World} {P : Prop} (h : P) (hb : Below w.heap.size w w') : Told w P (.returned (.bool true)) w' := ⟨true, rfl, by simp [h], hb⟩
theorem Told.no {w w' : World} {P : Prop} (h : ¬ P) (hb : Below w.heap.size w w') : Told w P (.returned (.bool false)) w' := ⟨false, rfl, by simp [h], hb⟩
/-- A meter and an answer were given back; a meter, a number and an answer. -/
def BeginPost (w : World) (me : Int) (e : Ending) (w' : World) : Prop := ∃ m' f, e = .returned (.tuple #[Mt.v m', .int .i64 f]) ∧ BeginIs me m' f ∧ Below w.heap.size w w'
def TickPost (w : World) (m : Mt) (ld : Int) (e : Ending) (w' : World) : Prop := ∃ m' x f, e = .returned (.tuple #[Mt.v m', .int .i64 x, .int .i64 f]) ∧ TickIs m ld m' x f ∧ Below w.heap.size w w'
/-- A token's body. -/
def bodyI (c i a : Int) : Int := c * 2199023255552 + i * 2097152 + a
theorem body_tok (k : Tok) : bodyI k.c k.i k.a = (k.body : Int) := by unfold bodyI Tok.body; omega
/-- A meter, a number and an answer were given back. -/
def KeyPost (w : World) (m : Mt) (l : List Pr) (c i a t : Int) (e : Ending) (w' : World) : Prop :=
  ∃ m' x f, e = .returned (.tuple #[Mt.v m', .int .i64 x, .int .i64 f]) ∧ KeyIs m l c i a t (bodyI c i a) m' x f ∧ Below w.heap.size w w'

end Go.Proofs.YtnhidiefchamlaaDoor.met
