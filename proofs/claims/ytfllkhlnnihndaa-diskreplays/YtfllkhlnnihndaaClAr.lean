/- Rows of words in blocks of their own. -/
import Derived.Test.YtfllkhlnnihndaaClN
import Derived.Test.YtfllkhlnnihndaaWRow
import Derived.Deep.OwnRows
namespace Go.Proofs.Ytfllkhlnnihndaa.cell
open Go.RowKit
set_option maxRecDepth 100000

/-- A row of words in a block of its own. -/
def arr (zs : List Int) : Array Value := (zs.map (Value.int .u32)).toArray
theorem arr_set (zs : List Int) (i : Nat) (v : Int) : (arr zs).setIfInBounds i (.int .u32 v) = arr (zs.set i v) := by
  unfold arr
  apply Array.ext'
  simp [List.map_set]
theorem Blk.rowU {w : World} {G n : Nat} {zs : List Int} {t : TypeId} (h : Blk w G (arr zs) t) (hn : zs.length = n) : RowU w (some ⟨G, 0, none⟩) n zs := by
  refine ⟨hn, .inr ⟨G, 0, rfl, fun i hi => ?_⟩⟩
  rw [Nat.zero_add, h.cell i]
  unfold arr
  simp [List.getD, show i < zs.length by omega]
theorem Blk.word {w : World} {G : Nat} {zs : List Int} {t : TypeId} (h : Blk w G (arr zs) t) (i : Nat) (hi : i < zs.length) : w.cell? ⟨G, i, none⟩ = some (.int .u32 (zs.getD i 0)) := by
  rw [h.cell i]
  unfold arr
  simp [List.getD, hi]
theorem made_zero (n : Nat) : madeCells (Value.int .u32 0).cells (n * 1) = arr (List.replicate n 0) := by
  unfold madeCells arr
  apply Array.ext'
  simp [Value.cells]
  apply List.ext_getElem
  · simp
  · intro i h1 h2
    simp [Nat.mod_one]
/-- Words and an answer were given back. -/
def GaveR (w : World) (zs : List Int) (c : Int) (e : Ending) (w' : World) : Prop :=
  ∃ a cap, e = .returned (.tuple #[.slice a zs.length cap, .int .i64 c]) ∧ RowU w' a zs.length zs ∧ (a = none → cap = 0) ∧ Below w.heap.size w w'
theorem GaveR.mk {w w' : World} {zs : List Int} {c : Int} {a : Option Addr} {n cap : Nat} (hr : RowU w' a n zs) (hn : a = none → cap = 0) (hb : Below w.heap.size w w') : GaveR w zs c (.returned (.tuple #[.slice a n cap, .int .i64 c])) w' := by
  obtain ⟨h1, h2⟩ := hr
  subst h1
  exact ⟨a, cap, rfl, ⟨rfl, h2⟩, hn, hb⟩
theorem make_u32 (n : Nat) (h : n ≤ 100000) (w : World) : (Instr.makeSlice 22 (.int .i64 (n : Int)) (.int .i64 (n : Int))).run Try.prog w = .ok (.slice (some ⟨w.heap.size, 0, none⟩) n n) (w.alloc (.cells (arr (List.replicate n 0)) 42)) := by
  obtain ⟨i0, hi, hz0, hz1, hz2⟩ := info_parts info_u32
  have := run_make (P := Try.prog) w 22 42 i0 (.int .u32 0) Try.underlying22 hi hz0 .i64 .i64 n n (by omega) (by omega) (by rw [hz2]; omega) (by omega)
  rw [hz1] at this
  simp only [Int.toNat_natCast] at this
  rw [made_zero] at this
  exact this

end Go.Proofs.Ytfllkhlnnihndaa.cell
