/- A wide number as a number of any size: plain facts. -/
import Derived.Test.YtlicdeppfhmfjaaGreatDoorBigOp
namespace Go.Proofs.YtlicdeppfhmfjaaGreatDoor.words
open Go.RowKit
set_option maxRecDepth 100000

theorem len100 {m : Nat} (h : m < 4294967296 ^ 8) : (dig m).length ≤ 100 := by
  have := dig_len 8 h
  omega
theorem Trio.ex {w w' : World} {G z : Nat} {y0 y1 y2 : Value} (h : Trio w G y0 y1 y2) (he : Ex w w' z) (hne : G ≠ z) : Trio w' G y0 y1 y2 := by
  have hlt := h.lt
  unfold Trio at *
  rw [he.block G hlt hne]; exact h

/-- A step of big96: the words so far times 2^32, and the next one. -/
theorem big_bd {m x : Nat} (k : Nat) (hm : m < 4294967296 ^ k) (hx : x < 4294967296) : m * 4294967296 < 4294967296 ^ (k + 1) ∧ m * 4294967296 + x < 4294967296 ^ (k + 1) := by
  rw [Nat.pow_succ]
  have : (m + 1) * 4294967296 ≤ 4294967296 ^ k * 4294967296 := Nat.mul_le_mul_right _ hm
  rw [Nat.add_mul] at this
  omega

def big96V (a b c : Nat) : Nat := ((0 * 4294967296 + c) * 4294967296 + b) * 4294967296 + a

end Go.Proofs.YtlicdeppfhmfjaaGreatDoor.words
