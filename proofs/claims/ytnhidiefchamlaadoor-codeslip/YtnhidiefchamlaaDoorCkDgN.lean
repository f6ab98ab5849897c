/- What is wrong with a text of digits: plain facts. -/
import Derived.Test.YtnhidiefchamlaaDoorCkTxt
namespace Go.Proofs.YtnhidiefchamlaaDoor.check
open Go.RowKit

theorem flawR_zero {l : List UInt8} (h : flawR l = 0) : (1 ≤ l.length ∧ l.length ≤ 200) ∧ allD l = true := by
  unfold flawR at h
  by_cases h1 : l.length = 0 ∨ 200 < l.length
  · rw [if_pos h1] at h; omega
  · rw [if_neg h1] at h
    cases h2 : allD l
    · rw [h2] at h; simp at h
    · exact ⟨by omega, rfl⟩

end Go.Proofs.YtnhidiefchamlaaDoor.check
