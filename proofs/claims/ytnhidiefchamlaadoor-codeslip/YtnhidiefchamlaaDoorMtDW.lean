/- Meters' words: what calls give back. -/
import Derived.Test.YtnhidiefchamlaaDoorMtD
import Derived.Test.YtnhidiefchamlaaDoorWRow
namespace Go.Proofs.YtnhidiefchamlaaDoor.met
open Go.RowKit Go.Proofs.YtnhidiefchamlaaDoor.cell

/-- Words and an answer were given back. -/
def WordsPost (w : World) (m : Mt) (e : Ending) (w' : World) : Prop :=
  ∃ a n cap zs f, e = .returned (.tuple #[.slice a n cap, .int .i64 f]) ∧ RowU w' a n zs ∧ (a = none → cap = 0) ∧ n ≤ cap ∧ WordsIs m zs f ∧ Below w.heap.size w w'
/-- A meter and an answer were given back. -/
def ReadPost (w : World) (l : List Int) (e : Ending) (w' : World) : Prop :=
  ∃ m' f, e = .returned (.tuple #[Mt.v m', .int .i64 f]) ∧ ReadIs l m' f ∧ Below w.heap.size w w'
theorem row5 (w : World) (a b c d e : Int) (t : TypeId) : RowU (w.alloc (.cells #[.int .u32 a, .int .u32 b, .int .u32 c, .int .u32 d, .int .u32 e] t)) (some ⟨w.heap.size, 0, none⟩) 5 [a, b, c, d, e] := by
  have h := Blk.new w #[.int .u32 a, .int .u32 b, .int .u32 c, .int .u32 d, .int .u32 e] t
  refine ⟨rfl, .inr ⟨_, 0, rfl, fun i hi => ?_⟩⟩
  rw [Nat.zero_add, h.cell i]
  match i, hi with
  | 0, _ => rfl
  | 1, _ => rfl
  | 2, _ => rfl
  | 3, _ => rfl
  | 4, _ => rfl

end Go.Proofs.YtnhidiefchamlaaDoor.met
