/- The worth of a wide number. -/
import Derived.Test.YtlicdeppfhmfjaaGreatDoorBigCmp
namespace Go.Proofs.YtlicdeppfhmfjaaGreatDoor.words
open Go.RowKit
set_option maxRecDepth 100000

theorem big96_val {a b c : Nat} : ((big96V a b c : Nat) : Int) = W3.val ⟨a, b, c⟩ := by
  unfold big96V W3.val
  simp only
  omega
theorem big96_len {a b c : Nat} (ha : a < 4294967296) (hb : b < 4294967296) (hc : c < 4294967296) : (dig (big96V a b c)).length ≤ 100 := by
  refine len100 ?_
  have : big96V a b c < 4294967296 ^ 3 := by unfold big96V; omega
  exact Nat.lt_of_lt_of_le this (Nat.pow_le_pow_right (by decide) (by decide))

end Go.Proofs.YtlicdeppfhmfjaaGreatDoor.words
