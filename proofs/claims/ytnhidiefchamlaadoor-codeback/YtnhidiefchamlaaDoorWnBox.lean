/- Windows in boxes. -/
import Derived.Test.YtnhidiefchamlaaDoorBlk
namespace Go.Proofs.YtnhidiefchamlaaDoor.win
open Go.RowKit
set_option maxRecDepth 100000
set_option linter.unusedVariables false

/-- A window's block. -/
def Win (wr : World) (G : Nat) (h : Int) (b : Nat) : Prop := Blk wr G #[.int .i64 h, .int .u64 (b : Int)] 24
/-- The box in which a window came in. -/
structure Box (w wr : World) (h : Int) (b : Nat) : Prop where
  win : Win wr w.heap.size h b
  bel : Below w.heap.size w wr
theorem Box.next {w wr w' : World} {h : Int} {b : Nat} (hx : Box w wr h b) (hb : Below wr.heap.size wr w') : Box w w' h b := ⟨Blk.next hx.win hb, bel_step hx.bel hb⟩
theorem Box.new (w : World) (h : Int) (b : Nat) : Box w (w.alloc (.cells #[.int .i64 h, .int .u64 (b : Int)] 24)) h b := ⟨Blk.new w _ _, (Below.refl _ _).alloc (Nat.le_refl _) _⟩
theorem Box.alloc {w wr : World} {h : Int} {b : Nat} (hx : Box w wr h b) (o : Obj) : Box w (wr.alloc o) h b := hx.next ((Below.refl _ _).alloc (Nat.le_refl _) _)
end Go.Proofs.YtnhidiefchamlaaDoor.win
