/- A slip in a text of digits: plain facts. -/
import Derived.Test.YtlicdeppfhmfjabDoorCkDigT
namespace Go.Proofs.YtlicdeppfhmfjabDoor.check
open Go.RowKit

theorem digs_mid (A B : List UInt8) (c : UInt8) : (digs (A ++ c :: B)).reverse = (digs B).reverse ++ (c.toNat - 48) :: (digs A).reverse := by
  simp [digs]
theorem digs_two (A B : List UInt8) (c c' : UInt8) : (digs (A ++ c :: c' :: B)).reverse = (digs B).reverse ++ (c'.toNat - 48) :: (c.toNat - 48) :: (digs A).reverse := by
  simp [digs]
theorem allD_mid {A B : List UInt8} {c : UInt8} (h : allD (A ++ c :: B) = true) : allD A = true ∧ isD c = true ∧ allD B = true := by
  rw [allD_append, Bool.and_eq_true] at h
  have h2 := h.2
  simp only [allD, List.all_cons, Bool.and_eq_true] at h2
  exact ⟨h.1, h2.1, h2.2⟩
theorem allD_mk {A B : List UInt8} {c : UInt8} (h1 : allD A = true) (h2 : isD c = true) (h3 : allD B = true) : allD (A ++ c :: B) = true := by
  rw [allD_append, h1]
  simp only [allD, List.all_cons, Bool.true_and, Bool.and_eq_true]
  exact ⟨h2, h3⟩
theorem dig_ne {c c' : UInt8} (hc : isD c = true) (hc' : isD c' = true) (h : c ≠ c') : c.toNat - 48 ≠ c'.toNat - 48 := by
  have h1 := isD_bd hc
  have h2 := isD_bd hc'
  intro e
  exact h (UInt8.toNat_inj.1 (by omega))
theorem dig_lt {c : UInt8} (hc : isD c = true) : c.toNat - 48 < 10 := by have := isD_bd hc; omega

theorem slip_good {s t A B : List UInt8} {c c' : UInt8} (s1 : 2 ≤ s.length) (s2 : s.length ≤ 200) (sd : allD s = true) (sg : goodR s = true) (hs : s = A ++ c :: B) (ht : t = A ++ c' :: B) (hc' : isD c' = true) (hne : c ≠ c') : goodR t = false := by
  have h3 := allD_mid (by rw [← hs]; exact sd)
  have td : allD t = true := by rw [ht]; exact allD_mk h3.1 hc' h3.2.2
  have tl : t.length = s.length := by rw [hs, ht]; simp
  rw [good_iff s1 (flaw_good (by omega) s2 sd)] at sg
  rw [good_iff (by omega) (flaw_good (by omega) (by omega) td), beq_eq_false_iff_ne]
  intro e
  have e0 : sumR s 0 = 0 := by simpa using sg
  have e1 := e0.trans e.symm
  unfold sumR at e1
  rw [hs, ht, digs_mid, digs_mid] at e1
  exact dig_ne h3.2.1 hc' hne (fold_slip _ _ _ _ 0 0 (by decide) (by rw [← digs_mid, ← hs]; exact (digs_ok sd).rev) (dig_lt hc') e1)
theorem swap_good {s t A B : List UInt8} {c c' : UInt8} (s1 : 2 ≤ s.length) (s2 : s.length ≤ 200) (sd : allD s = true) (sg : goodR s = true) (hs : s = A ++ c :: c' :: B) (ht : t = A ++ c' :: c :: B) : goodR t = (s == t) := by
  have h3 := allD_mid (by rw [← hs]; exact sd)
  have h4 : isD c' = true ∧ allD B = true := by
    have := h3.2.2
    simp only [allD, List.all_cons, Bool.and_eq_true] at this
    exact this
  have td : allD t = true := by rw [ht]; exact allD_mk h3.1 h4.1 (by simp only [allD, List.all_cons, Bool.and_eq_true]; exact ⟨h3.2.1, h4.2⟩)
  have tl : t.length = s.length := by rw [hs, ht]; simp
  by_cases hcc : c = c'
  · have est : t = s := by rw [hs, ht, hcc]
    rw [est, sg]; simp
  · have hst : s ≠ t := by
      intro e
      rw [hs, ht] at e
      have := List.append_cancel_left e
      simp at this
      exact hcc this.1
    rw [beq_eq_false_iff_ne.2 hst]
    rw [good_iff s1 (flaw_good (by omega) s2 sd)] at sg
    rw [good_iff (by omega) (flaw_good (by omega) (by omega) td), beq_eq_false_iff_ne]
    intro e
    have e0 : sumR s 0 = 0 := by simpa using sg
    have e1 := e0.trans e.symm
    unfold sumR at e1
    rw [hs, ht, digs_two, digs_two] at e1
    exact dig_ne h4.1 h3.2.1 (Ne.symm hcc) (fold_swap _ _ _ _ 0 0 (by decide) (by rw [← digs_two, ← hs]; exact (digs_ok sd).rev) e1)

end Go.Proofs.YtlicdeppfhmfjabDoor.check
