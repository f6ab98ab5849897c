/- The writes of a record, on a disk whose records are known. -/
import Derived.Test.YtfllkhlnnihndaaKkA
import Derived.Test.YtfllkhlnnihndaaDkW
namespace Go.Proofs.Ytfllkhlnnihndaa.disk
open Go.RowKit Go.Proofs.Ytfllkhlnnihndaa.cell
set_option maxRecDepth 100000
set_option linter.unusedVariables false

/-- Append gives the writes, or there is no room. -/
def AppT (w : World) (z r : List Int) (e0 n m : Nat) (e : Ending) (w' : World) : Prop :=
  (e0 + m < n ∧ ∃ x q cx, e = .returned (.tuple #[.slice x q cx, .int .i64 0]) ∧ RowW w' x q (appW z e0 r) ∧ (∀ y, x = some y → w.heap.size ≤ y.block) ∧ q ≤ cx ∧ q = m + (if e0 + m + 1 < n then 2 else 1) ∧ Below w.heap.size w w') ∨
  (n ≤ e0 + m ∧ ∃ x cx, e = .returned (.tuple #[.slice x 0 cx, .int .i64 16]) ∧ Below w.heap.size w w')
theorem app_t (K : KAppend) (a : Option Addr) (n cap : Nat) (z : List Int) (zs : List (List Int)) (e0 g m c2 : Nat) (r : List Int) (w : World) (hd : Dsk w a n cap z) (ht : Tape z zs e0) (hr : RowU w (some ⟨g, 0, none⟩) m r) (hw : Wds r) (h1 : 1 ≤ m) (h2 : m ≤ 20) (h3 : m ≤ c2) :
    Calls Try.prog 14 #[.slice a n cap, .slice (some ⟨g, 0, none⟩) m c2] w fun e w' => AppT w z r e0 n m e w' := by
  have hn : z.length = n := hd.row.1
  have hm : r.length = m := hr.1
  refine (K w a n cap z _ m c2 r hd.row hd.nil hd.room (by have := ht.1.2; omega) hd.wds hr (fun h => by cases h) h3 (by omega) hw).mono ?_
  rintro e w' ⟨x, q, cx, ls, f, rfl, hrow, hnew, hle, _, hi, hb⟩
  rcases ht.app hi ⟨by omega, by omega⟩ with ⟨q1, rfl, rfl⟩ | ⟨q1, rfl, rfl⟩
  · refine .inl ⟨by omega, x, q, cx, rfl, hrow, hnew, hle, ?_, hb⟩
    have := hrow.1
    rw [app_len, hn, hm] at this
    exact this.symm
  · refine .inr ⟨by omega, x, cx, ?_, hb⟩
    have : q = 0 := hrow.1.symm
    rw [this]

end Go.Proofs.Ytfllkhlnnihndaa.disk
