/- A text cut: plain facts. -/
import Derived.Test.YtnhidiefchamlaaDoorDigitsN
import Derived.WalkSpells
import Derived.WalkLawsBesides
import Derived.Lib.Bytealg
import Derived.Lib.IndexBytes
namespace Go.Proofs.YtnhidiefchamlaaDoor.cents
open Go.RowKit

theorem ix_lt (l : List UInt8) (c : UInt8) : Lib.indexByte l c = -1 ∨ (0 ≤ Lib.indexByte l c ∧ Lib.indexByte l c < l.length) := by
  induction l with
  | nil => exact .inl rfl
  | cons b r ih =>
    simp only [Lib.indexByte]
    by_cases h : (b == c) = true
    · rw [if_pos h]; right; simp
    · rw [if_neg h]
      rcases ih with ih | ih
      · rw [if_pos (by simp [ih])]; exact .inl rfl
      · rw [if_neg (by simp; omega)]; right; simp; omega

theorem ix_self : Lib.indexByte [46] 46 = 0 := by simp [Lib.indexByte]

theorem ix_bd {s : ByteArray} {i : Nat} (h : Lib.indexByte s.data.toList 46 = i) : i < s.size := by
  rcases ix_lt s.data.toList 46 with h1 | h1
  · omega
  · have := h1.2; simp at this; omega

/-- Does a text open with a minus? -/
def neg (l : List UInt8) : Bool := l.head? == some 45

theorem len_eq (s : ByteArray) : s.data.toList.length = s.size := Array.length_toList

theorem neg_size {s : ByteArray} (h : neg s.data.toList = true) : 0 < s.size := by
  by_cases h0 : 0 < s.size
  · exact h0
  · have : s.data.toList = [] := List.eq_nil_of_length_eq_zero (by rw [len_eq]; omega)
    rw [this] at h; cases h

theorem neg_take {s : ByteArray} (h0 : 0 < s.size) : ((s.extract 0 1).toList == [45]) = neg s.data.toList := by
  rw [ByteArray.toList_eq, Lib.extract_data]
  have : 0 < s.data.toList.length := by simpa using h0
  unfold neg
  cases hl : s.data.toList with
  | nil => rw [hl] at this; cases this
  | cons a r => simp

/-- A whole number in digits, without noughts ahead. -/
def whole (l : List UInt8) : Bool := l == [48] || (l != [] && l.head? != some 48 && allD l)

end Go.Proofs.YtnhidiefchamlaaDoor.cents
