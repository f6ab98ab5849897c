/- Long division by a power of 2 with two words or more: plain facts. -/
import Derived.Test.YtlicdeppfhmfjaaGreatDoorBigDiv
namespace Go.Proofs.YtlicdeppfhmfjaaGreatDoor.words
open Go.RowKit
set_option maxRecDepth 100000

/-- The words of 2^31 behind k noughts. -/
theorem dig_high31 (k : Nat) : dig (4294967296 ^ k * 2147483648) = List.replicate k 0 ++ [2147483648] := by
  induction k with
  | zero =>
    rw [Nat.pow_zero, Nat.one_mul, dig_pos (by decide)]
    have e : 2147483648 / 4294967296 = 0 := by decide
    rw [e, dig_zero]
    rfl
  | succ k ih =>
    have e : 4294967296 ^ (k + 1) * 2147483648 = 4294967296 ^ k * 2147483648 * 4294967296 + 0 := by rw [Nat.pow_succ, Nat.mul_right_comm, Nat.add_zero]
    have h0 : 4294967296 ^ k * 2147483648 ≠ 0 := Nat.ne_of_gt (Nat.mul_pos (Nat.pow_pos (by decide)) (by decide))
    rw [e, dig_shift _ 0 (by decide) (.inl h0), ih]
    rfl
theorem high31_len (k : Nat) : (dig (4294967296 ^ k * 2147483648)).length = k + 1 := by rw [dig_high31]; simp
theorem high31_low {k i : Nat} (h : i < k) : (dig (4294967296 ^ k * 2147483648)).getD i 0 = 0 := by
  rw [dig_high31]
  simp [List.getD, List.getElem?_append_left, h]
theorem high31_top (k : Nat) : (dig (4294967296 ^ k * 2147483648)).getD k 0 = 2147483648 := by
  rw [dig_high31]
  simp [List.getD]

/-- What is left of the number, and the quotient's words from k on: N = m + n + 1 words, the divisor B^(n-1) * 2^31. -/
def LongInv (A m n k : Nat) (U Q : Nat → Nat) : Prop :=
  (∀ j, j < m + n + 1 → U j < 4294967296) ∧ (∀ j, k + n ≤ j → j < m + n + 1 → U j = 0) ∧ U (k + n - 1) < 2147483648 ∧ (∀ j, j < m + 1 → Q j < 4294967296) ∧
  nf U (m + n + 1) + 4294967296 ^ (n - 1) * 2147483648 * (4294967296 ^ k * hf Q k (m + 1)) = A

theorem long_arith {N N1 N2 T x y g : Nat} (h1 : N1 + T * y = N + T * (y % 2147483648)) (h2 : N2 + T * 4294967296 * x = N1 + T * 4294967296 * 0) (hg : g = x * 2 + y / 2147483648) : N = N2 + T * 2147483648 * g := by
  have e1 : T * y = T * 2147483648 * (y / 2147483648) + T * (y % 2147483648) := by
    rw [Nat.mul_assoc, ← Nat.mul_add, Nat.div_add_mod]
  have e2 : T * 2147483648 * g = T * 4294967296 * x + T * 2147483648 * (y / 2147483648) := by
    have e3 : 2147483648 * (x * 2) = 4294967296 * x := by omega
    rw [hg, Nat.mul_add, Nat.mul_assoc T 2147483648 (x * 2), e3, ← Nat.mul_assoc]
  rw [e2]
  rw [Nat.mul_zero] at h2
  omega

theorem long_fold {N P J c g B H A : Nat} (h : N + P * J * c * g + P * c * (J * B * H) = A) : N + P * c * (J * (g + B * H)) = A := by
  rw [Nat.mul_add, Nat.mul_add, ← Nat.mul_assoc J B H, ← Nat.add_assoc, ← Nat.mul_assoc (P * c) J g, Nat.mul_right_comm P c J]
  exact h

theorem long_next {A m n j : Nat} {U Q : Nat → Nat} (hn : 2 ≤ n) (hj : j ≤ m) (h : LongInv A m n (j + 1) U Q) :
    LongInv A m n j (updU (updU U (j + n - 1) (U (j + n - 1) % 2147483648)) (j + n) 0) (updU Q j (U (j + n) * 2 + U (j + n - 1) / 2147483648)) := by
  obtain ⟨b1, b2, b3, b4, b5⟩ := h
  have hx : U (j + n) < 2147483648 := by rw [show j + n = j + 1 + n - 1 by omega]; exact b3
  have hy := b1 (j + n - 1) (by omega)
  refine ⟨fun i hi => ?_, fun i h1 h2 => ?_, ?_, fun i hi => ?_, ?_⟩
  · unfold updU
    split
    · omega
    · split
      · omega
      · exact b1 i hi
  · unfold updU
    split
    · rfl
    · rw [if_neg (by omega)]
      exact b2 i (by omega) h2
  · unfold updU
    rw [if_neg (by omega), if_pos rfl]
    omega
  · unfold updU
    split
    · omega
    · exact b4 i hi
  · have u1 := nf_upd U (j + n - 1) (U (j + n - 1) % 2147483648) (m + n + 1) (by omega)
    have u2 := nf_upd (updU U (j + n - 1) (U (j + n - 1) % 2147483648)) (j + n) 0 (m + n + 1) (by omega)
    have e0 : updU U (j + n - 1) (U (j + n - 1) % 2147483648) (j + n) = U (j + n) := by unfold updU; rw [if_neg (by omega)]
    rw [e0] at u2
    have hq : hf (updU Q j (U (j + n) * 2 + U (j + n - 1) / 2147483648)) j (m + 1) = (U (j + n) * 2 + U (j + n - 1) / 2147483648) + 4294967296 * hf Q (j + 1) (m + 1) := by
      rw [hf_step _ (by omega : j < m + 1)]
      congr 1
      · unfold updU; rw [if_pos rfl]
      · congr 1
        exact hf_congr fun i hi => by unfold updU; rw [if_neg (by omega)]
    rw [hq]
    generalize hg : U (j + n) * 2 + U (j + n - 1) / 2147483648 = g at *
    have p1 : 4294967296 ^ (j + n - 1) = 4294967296 ^ (n - 1) * 4294967296 ^ j := by rw [← Nat.pow_add]; congr 1; omega
    have p2 : 4294967296 ^ (j + n) = 4294967296 ^ (n - 1) * 4294967296 ^ j * 4294967296 := by rw [← p1, ← Nat.pow_succ]; congr 1; omega
    rw [p1] at u1
    rw [p2] at u2
    have hN := long_arith u1 u2 hg.symm
    rw [hN, Nat.pow_succ] at b5
    exact long_fold b5

theorem long_end {M s m n : Nat} {U Q : Nat → Nat} {D : Nat} (hD : D * 2 ^ s = 4294967296 ^ (n - 1) * 2147483648) (hn : 2 ≤ n) (h : LongInv (M * 2 ^ s) m n 0 U Q) :
    nv ((List.range (m + 1)).map Q) = M / D ∧ nv ((List.range (m + n + 1)).map U) / 2 ^ s = M % D := by
  obtain ⟨b1, b2, b3, b4, b5⟩ := h
  rw [nv_range, nv_range]
  rw [Nat.pow_zero, Nat.one_mul, hf_zero, ← hD] at b5
  have hp : 0 < 2 ^ s := Nat.two_pow_pos _
  have hU : nf U (m + n + 1) < D * 2 ^ s := by
    have e1 : nf U (m + n + 1) = nf U n := by
      have : ∀ k, n ≤ k → k ≤ m + n + 1 → nf U k = nf U n := by
        intro k h1
        induction k with
        | zero => intro _; have : n = 0 := by omega
                  omega
        | succ k ih =>
          intro h2
          by_cases e : n = k + 1
          · rw [e]
          · rw [nf, b2 k (by omega) (by omega), Nat.mul_zero, Nat.add_zero]
            exact ih (by omega) (by omega)
      exact this _ (by omega) (Nat.le_refl _)
    obtain ⟨k, rfl⟩ : ∃ k, n = k + 1 := ⟨n - 1, by omega⟩
    rw [e1, nf, hD, Nat.add_sub_cancel]
    have h1 := nf_lt (f := U) (n := k) fun i hi => b1 i (by omega)
    have h2 : U k < 2147483648 := by rw [show 0 + (k + 1) - 1 = k by omega] at b3; exact b3
    have h3 : 4294967296 ^ k * (U k + 1) ≤ 4294967296 ^ k * 2147483648 := Nat.mul_le_mul_left _ h2
    rw [Nat.mul_add, Nat.mul_one] at h3
    exact Nat.lt_of_lt_of_le (by rw [Nat.add_comm]; exact Nat.add_lt_add_left h1 _) h3
  have h2 := small_fin (Q := nf Q (m + 1)) (r := nf U (m + n + 1)) (d := D * 2 ^ s) (m := M * 2 ^ s) (by rw [← b5, Nat.add_comm, Nat.mul_comm (nf Q (m + 1))]) hU
  rw [Nat.mul_div_mul_right _ _ hp, Nat.mul_mod_mul_right] at h2
  exact ⟨h2.1, by rw [h2.2, Nat.mul_div_cancel _ hp]⟩

end Go.Proofs.YtlicdeppfhmfjaaGreatDoor.words
