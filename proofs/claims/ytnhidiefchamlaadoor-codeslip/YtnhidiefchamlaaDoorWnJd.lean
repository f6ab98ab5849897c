/- Windows: what may be, and what is judged, told by calls. -/
import Derived.Test.YtnhidiefchamlaaDoorWnN
import Derived.Test.YtnhidiefchamlaaDoorBlk
namespace Go.Proofs.YtnhidiefchamlaaDoor.win
open Go.RowKit
set_option maxRecDepth 100000

theorem half_next (b k : Nat) : b / 2 ^ (k + 1) = b / 2 ^ k / 2 := by rw [Nat.pow_succ, Nat.div_div_eq_div_mul]
theorem bit_at (b i : Nat) : b.testBit i = decide (b / 2 ^ i % 2 = 1) := Nat.testBit_eq_decide_div_mod_eq
theorem div_le' (b k : Nat) : b / 2 ^ k ≤ b := Nat.div_le_self _ _
/-- Whether a window may be was told. -/
def MayPost (w : World) (h : Int) (b : Nat) (e : Ending) (w' : World) : Prop := ∃ r : Bool, e = .returned (.bool r) ∧ (r = true ↔ May h b) ∧ Below w.heap.size w w'
theorem MayPost.yes {w w' : World} {h : Int} {b : Nat} (hm : May h b) (hb : Below w.heap.size w w') : MayPost w h b (.returned (.bool true)) w' := ⟨true, rfl, by simp [hm], hb⟩
theorem MayPost.no {w w' : World} {h : Int} {b : Nat} (hm : ¬ May h b) (hb : Below w.heap.size w w') : MayPost w h b (.returned (.bool false)) w' := ⟨false, rfl, by simp [hm], hb⟩
theorem may_zero (b : Nat) : May 0 b ↔ b = 0 := by
  constructor
  · rintro (⟨_, h⟩ | ⟨h, _⟩)
    · exact h
    · omega
  · exact fun h => .inl ⟨rfl, h⟩
theorem may_out {h : Int} {b : Nat} (h0 : h ≠ 0) (h1 : h < 1 ∨ 1048575 < h) : ¬ May h b := by
  rintro (⟨h2, _⟩ | ⟨h2, h3, _⟩)
  · exact h0 h2
  · omega

/-- A number was judged. -/
def JudgePost (w : World) (h : Int) (b : Nat) (id : Int) (e : Ending) (w' : World) : Prop := ∃ c, e = .returned (.int .i64 c) ∧ JudgeIs h b id c ∧ Below w.heap.size w w'
theorem JudgePost.mk {w w' : World} {h : Int} {b : Nat} {id c : Int} (hj : JudgeIs h b id c) (hb : Below w.heap.size w w') : JudgePost w h b id (.returned (.int .i64 c)) w' := ⟨c, rfl, hj, hb⟩
theorem may_low {h : Int} {b : Nat} (hm : May h b) : 0 ≤ h ∧ h ≤ 1048575 := by
  rcases hm with ⟨h0, _⟩ | ⟨h1, h2, _⟩ <;> omega
end Go.Proofs.YtnhidiefchamlaaDoor.win
