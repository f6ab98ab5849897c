/- What the rest tells: plain facts on texts. -/
import Derived.Test.YtopbiamlmdpphacCkSlip
import Derived.Test.YtopbiamlmdpphacCkRest
namespace Go.Proofs.Ytopbiamlmdpphac.check
open Go.RowKit

theorem flaw_good {l : List UInt8} (h1 : 1 ≤ l.length) (h2 : l.length ≤ 200) (h3 : allD l = true) : flawR l = 0 := flawR_ok (by omega) h3
theorem restR_good {l : List UInt8} (h : flawR l = 0) : restR l = ((restN 0 (digs l) : Nat) : Int) := by unfold restR; rw [if_pos h]
theorem dig_ne {c c' : UInt8} (hc : isD c = true) (hc' : isD c' = true) (h : c ≠ c') : c.toNat - 48 ≠ c'.toNat - 48 := by
  have h1 := isD_bd hc
  have h2 := isD_bd hc'
  intro e
  exact h (UInt8.toNat_inj.1 (by omega))
theorem dig_lt {c : UInt8} (hc : isD c = true) : c.toNat - 48 < 10 := by have := isD_bd hc; omega
theorem allD_mid {A B : List UInt8} {c : UInt8} (h : allD (A ++ c :: B) = true) : allD A = true ∧ isD c = true ∧ allD B = true := by
  rw [allD_append, Bool.and_eq_true] at h
  have h2 := h.2
  simp only [allD, List.all_cons, Bool.and_eq_true] at h2
  exact ⟨h.1, h2.1, h2.2⟩
theorem allD_mk {A B : List UInt8} {c : UInt8} (h1 : allD A = true) (h2 : isD c = true) (h3 : allD B = true) : allD (A ++ c :: B) = true := by
  rw [allD_append, h1]
  simp only [allD, List.all_cons, Bool.true_and, Bool.and_eq_true]
  exact ⟨h2, h3⟩
theorem digs_cons (c : UInt8) (l : List UInt8) : digs (c :: l) = (c.toNat - 48) :: digs l := rfl

theorem rest_bd {l : List UInt8} (h : flawR l = 0) : 0 ≤ restR l ∧ restR l < 97 := by
  rw [restR_good h]
  have := restN_lt (digs l) 0 (by decide)
  omega

theorem slip_rest {s t A B : List UInt8} {c c' : UInt8} (s1 : 1 ≤ s.length) (s2 : s.length ≤ 200) (sd : allD s = true) (hs : s = A ++ c :: B) (ht : t = A ++ c' :: B) (hc' : isD c' = true) (hne : c ≠ c') :
    flawR s = 0 ∧ flawR t = 0 ∧ restR s ≠ restR t := by
  have e1 := flaw_good s1 s2 sd
  rw [hs] at sd
  have h3 := allD_mid sd
  have e2 : flawR t = 0 := flaw_good (by rw [ht]; rw [hs] at s1; simpa using s1) (by rw [ht]; rw [hs] at s2; simpa using s2) (by rw [ht]; exact allD_mk h3.1 hc' h3.2.2)
  refine ⟨e1, e2, ?_⟩
  rw [restR_good e1, restR_good e2, hs, ht, digs_append, digs_append, digs_cons, digs_cons]
  intro e
  exact dig_ne h3.2.1 hc' hne (rest_slip _ _ _ _ 0 (dig_lt h3.2.1) (dig_lt hc') (Int.ofNat_inj.1 e))

theorem swap_rest {s t A m B : List UInt8} {c c' : UInt8} (s1 : 1 ≤ s.length) (s2 : s.length ≤ 200) (sd : allD s = true) (hs : s = A ++ c :: (m ++ c' :: B)) (ht : t = A ++ c' :: (m ++ c :: B)) (hm : m.length ≤ 1) :
    flawR s = 0 ∧ flawR t = 0 ∧ (restR s == restR t) = (s == t) := by
  have e1 := flaw_good s1 s2 sd
  rw [hs] at sd
  have h3 := allD_mid sd
  have h4 := allD_mid h3.2.2
  have e2 : flawR t = 0 := flaw_good (by rw [ht]; rw [hs] at s1; simpa using s1) (by rw [ht]; rw [hs] at s2; simpa using s2) (by rw [ht]; exact allD_mk h3.1 h4.2.1 (allD_mk h4.1 h3.2.1 h4.2.2))
  refine ⟨e1, e2, ?_⟩
  by_cases hcc : c = c'
  · have est : s = t := by rw [hs, ht, hcc]
    rw [est]; simp
  · have hst : s ≠ t := by
      intro e
      rw [hs, ht] at e
      have := List.append_cancel_left e
      simp at this
      exact hcc this.1
    have hr : restR s ≠ restR t := by
      rw [restR_good e1, restR_good e2, hs, ht, digs_append, digs_append, digs_cons, digs_cons, digs_append, digs_append, digs_cons, digs_cons]
      intro e
      have hne := dig_ne h3.2.1 h4.2.1 hcc
      match m, hm with
      | [], _ => exact hne (rest_swap _ _ _ _ 0 (dig_lt h3.2.1) (dig_lt h4.2.1) (Int.ofNat_inj.1 e))
      | [x], _ => exact hne (rest_swap2 _ _ _ (x.toNat - 48) _ 0 (dig_lt h3.2.1) (dig_lt h4.2.1) (Int.ofNat_inj.1 e))
      | x :: y :: r, h => simp at h
    rw [beq_eq_false_iff_ne.2 hr, beq_eq_false_iff_ne.2 hst]

theorem join_rest {s t : List UInt8} (s1 : 1 ≤ s.length) (s2 : s.length ≤ 100) (sd : allD s = true) (t1 : 1 ≤ t.length) (t2 : t.length ≤ 100) (td : allD t = true) :
    flawR s = 0 ∧ flawR t = 0 ∧ flawR (s ++ t) = 0 ∧ restR (s ++ t) = (((shiftN t.length (restN 0 (digs s)) : Nat) : Int) + restR t) % 97 := by
  have e1 := flaw_good s1 (by omega) sd
  have e2 := flaw_good t1 (by omega) td
  have e3 : flawR (s ++ t) = 0 := flaw_good (by simp; omega) (by simp; omega) (by rw [allD_append, sd, td]; rfl)
  refine ⟨e1, e2, e3, ?_⟩
  rw [restR_good e3, restR_good e2, digs_append, restN_append, rest_join _ _ (restN_lt _ 0 (by decide)), digs_len]
  omega
theorem one_rest {c : UInt8} (h : isD c = true) : flawR [c] = 0 ∧ restR [c] = ((c.toNat : Nat) : Int) - 48 := by
  have e1 : flawR [c] = 0 := flaw_good (by simp) (by simp) (by simpa [allD] using h)
  refine ⟨e1, ?_⟩
  rw [restR_good e1]
  have := isD_bd h
  show (((0 * 10 + (c.toNat - 48)) % 97 : Nat) : Int) = _
  omega

end Go.Proofs.Ytopbiamlmdpphac.check
