/- What issuing gives, where it lies besides. -/
import Derived.Test.YtgipkpkjoicehabDoorOrD
import Derived.Test.YtgipkpkjoicehabDoorLet
namespace Go.Proofs.YtgipkpkjoicehabDoor.met
open Go.RowKit Go.Proofs.YtgipkpkjoicehabDoor.ora
set_option maxRecDepth 100000
set_option linter.unusedVariables false
set_option linter.unusedSimpArgs false

/-- An oracle that lies in the world. -/
def Alive (w : World) (a : Option Addr) : Prop := ∀ y, a = some y → y.block < w.heap.size
theorem Alive.below {w w' : World} {a : Option Addr} (h : Alive w a) (hb : Below w.heap.size w w') : Alive w' a := fun y hy => Nat.lt_of_lt_of_le (h y hy) hb.size
theorem _root_.Go.Proofs.YtgipkpkjoicehabDoor.ora.Came.drew {w : World} {a : Option Addr} {n cap : Nat} {l : List Pr} (h : Came w a n cap l) (q : Nat) : Came (w.drewN q) a n cap l := ⟨h.row, h.nil, h.le, h.small⟩
theorem Alive.none (w : World) : Alive w none := fun y h => by cases h
/-- It lies where the elder one lay, or in memory that was not there. -/
def Near (w : World) (a a' : Option Addr) : Prop := ∀ y, a' = some y → w.heap.size ≤ y.block ∨ ∃ z, a = some z ∧ z.block = y.block
def IssueP (w : World) (a : Option Addr) (l : List Pr) (m r b d : Int) (e : Ending) (w' : World) : Prop :=
  ∃ a' n' cap' ls x c, e = .returned (.tuple #[.agg #[.slice a' n' cap'], .int .i64 x, .int .i64 c]) ∧ Came w' a' n' cap' ls ∧ Alive w' a' ∧ Near w a a' ∧ IssueIs l m r b d ls x c ∧ Below w.heap.size w w'
theorem upd_rowP {w W : World} {g n : Nat} {cs : Array Value} {t : TypeId} {a : Option Addr} {l : List Pr} (hu : Upd w W g cs t) (hr : RowP w a n l) (hne : ∀ y, a = some y → y.block ≠ g) : RowP W a n l := by
  refine ⟨hr.1, ?_⟩
  rcases hr.2 with h0 | ⟨b, off, rfl, hc⟩
  · exact .inl h0
  · refine .inr ⟨b, off, rfl, fun i hi => ?_⟩
    have hb : b ≠ g := hne _ rfl
    obtain ⟨h1, h2, h3, h4⟩ := hc i hi
    exact ⟨(hu.cell ⟨b, _, none⟩ hb rfl).trans h1, (hu.cell ⟨b, _, none⟩ hb rfl).trans h2, (hu.cell ⟨b, _, none⟩ hb rfl).trans h3, (hu.cell ⟨b, _, none⟩ hb rfl).trans h4⟩
theorem upd_came {w W : World} {g n cap : Nat} {cs : Array Value} {t : TypeId} {a : Option Addr} {l : List Pr} (hu : Upd w W g cs t) (h : Came w a n cap l) (hne : ∀ y, a = some y → y.block ≠ g) : Came W a n cap l := ⟨upd_rowP hu h.row hne, h.nil, h.le, h.small⟩

end Go.Proofs.YtgipkpkjoicehabDoor.met
