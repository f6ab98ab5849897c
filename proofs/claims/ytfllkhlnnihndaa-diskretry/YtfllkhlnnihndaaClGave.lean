/- Writes that are given back. -/
import Derived.Test.YtfllkhlnnihndaaClArr
namespace Go.Proofs.Ytfllkhlnnihndaa.cell
open Go.RowKit
set_option maxRecDepth 100000

/-- Writes and an answer were given back. -/
def GaveL (w : World) (ls : List Wr) (c : Int) (e : Ending) (w' : World) : Prop :=
  ∃ v, e = .returned (.tuple #[v, .int .i64 c]) ∧ Lw w' w.heap.size v ls ∧ Below w.heap.size w w'
theorem GaveL.mk {w w' : World} {ls : List Wr} {c : Int} {v : Value} (h : Lw w' w.heap.size v ls) (hb : Below w.heap.size w w') : GaveL w ls c (.returned (.tuple #[v, .int .i64 c])) w' := ⟨v, rfl, h, hb⟩
theorem pair_cell (w : World) (p d : Int) : (w.alloc (.cells #[.int .i64 p, .int .u32 d] 44)).cell? ⟨w.heap.size, 0, none⟩ = some (.int .i64 p) ∧ (w.alloc (.cells #[.int .i64 p, .int .u32 d] 44)).cell? ⟨w.heap.size, 1, none⟩ = some (.int .u32 d) :=
  ⟨(Blk.new w _ _).cell 0, (Blk.new w _ _).cell 1⟩
theorem word_cell (w : World) (d : Int) : (w.alloc (.cells #[.int .u32 d] 42)).cell? ⟨w.heap.size, 0, none⟩ = some (.int .u32 d) := (Blk.new w _ _).cell 0
/-- The same as GaveR, and the room is told. -/
def GaveC (w : World) (zs : List Int) (c : Int) (e : Ending) (w' : World) : Prop :=
  ∃ a cap, e = .returned (.tuple #[.slice a zs.length cap, .int .i64 c]) ∧ RowU w' a zs.length zs ∧ (a = none → cap = 0) ∧ zs.length ≤ cap ∧ Below w.heap.size w w'
theorem GaveC.mk {w w' : World} {zs : List Int} {c : Int} {a : Option Addr} {n cap : Nat} (hr : RowU w' a n zs) (hn : a = none → cap = 0) (hc : n ≤ cap) (hb : Below w.heap.size w w') : GaveC w zs c (.returned (.tuple #[.slice a n cap, .int .i64 c])) w' := by
  obtain ⟨h1, h2⟩ := hr
  subst h1
  exact ⟨a, cap, rfl, ⟨rfl, h2⟩, hn, hc, hb⟩
theorem GaveC.gave {w w' : World} {zs : List Int} {c : Int} {e : Ending} (h : GaveC w zs c e w') : GaveR w zs c e w' := by
  obtain ⟨a, cap, h1, h2, h3, _, h5⟩ := h
  exact ⟨a, cap, h1, h2, h3, h5⟩

end Go.Proofs.Ytfllkhlnnihndaa.cell
