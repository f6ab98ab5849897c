/- Windows: what taking gives. -/
import Derived.Test.YtgipkpkjoicehabDoorWnJd
namespace Go.Proofs.YtgipkpkjoicehabDoor.win
open Go.RowKit
set_option maxRecDepth 100000
set_option linter.unusedVariables false

/-- A number was taken, or refused. -/
def TakePost (w : World) (h : Int) (b : Nat) (id : Int) (e : Ending) (w' : World) : Prop :=
  ∃ h' b' c, e = .returned (.tuple #[.agg #[.int .i64 h', .int .u64 ((b' : Nat) : Int)], .int .i64 c]) ∧ JudgeIs h b id c ∧ (c ≠ 0 → h' = 0 ∧ b' = 0) ∧ (c = 0 → h' = max h id ∧ b' = took h b id) ∧ Below w.heap.size w w'
/-- Two blocks: the window that came in, and the one that goes out, empty as yet. -/
structure Bxs (w wr : World) (h : Int) (b : Nat) : Prop where
  inn : Blk wr w.heap.size #[.int .i64 h, .int .u64 (b : Int)] 34
  out : Blk wr (w.heap.size + 1) #[.int .i64 0, .int .u64 0] 34
  bel : Below w.heap.size w wr
  size : w.heap.size + 2 ≤ wr.heap.size
theorem Bxs.next {w wr w' : World} {h : Int} {b : Nat} (hx : Bxs w wr h b) (hb : Below wr.heap.size wr w') : Bxs w w' h b := ⟨hx.inn.next hb, hx.out.next hb, bel_step hx.bel hb, Nat.le_trans hx.size hb.size⟩
theorem Bxs.new (w : World) (h : Int) (b : Nat) : Bxs w ((w.alloc (.cells #[.int .i64 h, .int .u64 (b : Int)] 34)).alloc (.cells #[.int .i64 0, .int .u64 0] 34)) h b :=
  ⟨(Blk.new w _ _).alloc _, Blk.new1 w _ _ _, ((Below.refl _ _).alloc (Nat.le_refl _) _).alloc (by simp) _, by simp⟩
end Go.Proofs.YtgipkpkjoicehabDoor.win
