/- Digits: plain facts. -/
import Derived.WalkKit
import Derived.Below
import Derived.Laws.RangeAny
namespace Go.Proofs.YtnhidiefchamlaaDoor.cents
open Go.RowKit

def isD (c : UInt8) : Bool := decide (48 ≤ c.toNat) && decide (c.toNat ≤ 57)
def allD (l : List UInt8) : Bool := l.all isD
/-- The number that digits make. -/
def dval (l : List UInt8) : Int := l.foldl (fun n c => n * 10 + ((c.toNat : Int) - 48)) 0
/-- The same, but that nothing more is added once it is above a million millions. -/
def cval (l : List UInt8) : Int := l.foldl (fun n c => if n ≤ 1000000000000 then n * 10 + ((c.toNat : Int) - 48) else n) 0

theorem allD_append (a b : List UInt8) : allD (a ++ b) = (allD a && allD b) := by simp [allD]
theorem dval_snoc (l : List UInt8) (c : UInt8) : dval (l ++ [c]) = dval l * 10 + ((c.toNat : Int) - 48) := by simp [dval, List.foldl_append]
theorem cval_snoc (l : List UInt8) (c : UInt8) : cval (l ++ [c]) = if cval l ≤ 1000000000000 then cval l * 10 + ((c.toNat : Int) - 48) else cval l := by unfold cval; rw [List.foldl_append]; rfl

theorem snoc_ind {P : List UInt8 → Prop} (h0 : P []) (h1 : ∀ l c, P l → P (l ++ [c])) (l : List UInt8) : P l := by
  have : ∀ n, ∀ l : List UInt8, l.length = n → P l := by
    intro n
    induction n with
    | zero => intro l hl; rw [List.eq_nil_of_length_eq_zero hl]; exact h0
    | succ n ih =>
      intro l hl
      have hne : l ≠ [] := by intro e; rw [e] at hl; cases hl
      rw [← List.dropLast_concat_getLast hne]
      exact h1 _ _ (ih _ (by simp [hl]))
  exact this _ l rfl

theorem isD_bd {c : UInt8} (h : isD c = true) : 48 ≤ (c.toNat : Int) ∧ (c.toNat : Int) ≤ 57 := by
  simp [isD] at h; omega

/-- Where the number is not too great the two are the same; else both are above the bound. -/
theorem cval_eq (l : List UInt8) (h : allD l = true) : 0 ≤ dval l ∧ 0 ≤ cval l ∧ cval l ≤ 10000000000009 ∧ (dval l ≤ 1000000000000 → cval l = dval l) ∧ (1000000000000 < dval l → 1000000000000 < cval l) := by
  induction l using snoc_ind with
  | h0 => simp [dval, cval]
  | h1 l c ih =>
    rw [allD_append, Bool.and_eq_true] at h
    obtain ⟨a1, a2, a3, a4, a5⟩ := ih h.1
    have hc := isD_bd (c := c) (by simpa [allD] using h.2)
    rw [dval_snoc, cval_snoc]
    by_cases hd : dval l ≤ 1000000000000
    · have e := a4 hd
      rw [e, if_pos hd]
      omega
    · have e := a5 (by omega)
      rw [if_neg (by omega)]
      omega

theorem take_snoc (s : ByteArray) (k : Nat) (h : k < s.size) : s.data.toList.take (k + 1) = s.data.toList.take k ++ [s[k]] := by
  rw [List.take_succ_eq_append_getElem (by simpa using h)]; rfl

theorem allD_take_no (s : ByteArray) (k : Nat) (h : k < s.size) (hn : isD s[k] = false) : allD s.data.toList = false := by
  have e : s.data.toList = s.data.toList.take k ++ [s[k]] ++ s.data.toList.drop (k + 1) := by rw [← take_snoc s k h, List.take_append_drop]
  rw [e, allD_append, allD_append]
  simp [allD, hn]

theorem isD_yes {c : UInt8} (h1 : 48 ≤ (c.toNat : Int)) (h2 : (c.toNat : Int) ≤ 57) : isD c = true := by simp [isD]; omega
theorem isD_lo {c : UInt8} (h1 : (c.toNat : Int) < 48) : isD c = false := by simp [isD]; omega
theorem isD_hi {c : UInt8} (h1 : 57 < (c.toNat : Int)) : isD c = false := by simp [isD]; omega

end Go.Proofs.YtnhidiefchamlaaDoor.cents
