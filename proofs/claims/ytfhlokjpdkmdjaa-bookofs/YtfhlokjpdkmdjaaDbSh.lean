/- The share, as the document has it. -/
import Derived.Test.YtfhlokjpdkmdjaaDbK
import Derived.Test.YtfhlokjpdkmdjaaCaIn
namespace Go.Proofs.Ytfhlokjpdkmdjaa.deb
open Go.Proofs.Ytfhlokjpdkmdjaa.tar (Du du0 Came RowD Ld ErrPost TwoPost PairT GaveD)
open Go.RowKit
set_option maxRecDepth 100000
set_option linter.unusedVariables false
set_option linter.unusedSimpArgs false

theorem part_split (a b : Int) : a / 10000 * b + a % 10000 * b / 10000 = a * b / 10000 := by
  have e : a * b = a / 10000 * b * 10000 + a % 10000 * b := by
    have h := Int.emod_add_mul_ediv a 10000
    have h2 : a * b = (a % 10000 + 10000 * (a / 10000)) * b := by rw [h]
    rw [h2, Int.add_mul, Int.mul_assoc, Int.mul_comm 10000, Int.add_comm]
  rw [e]
  generalize a / 10000 * b = x
  generalize a % 10000 * b = y
  omega
set_option maxHeartbeats 1000000 in
theorem rparted (a b : Int) (w : World) (h : (0 ≤ a ∧ a ≤ 1000000000000) ∧ 0 ≤ b ∧ b ≤ 10000) :
    Calls Try.prog 72 #[.int .i64 a, .int .i64 b] w fun e w' => e = .returned (.tuple #[.int .i64 (a * b / 10000), .int .i64 0]) ∧ w' = w := by
  have HI1 : Hid (∀ W, Calls Try.prog 47 #[.int .i64 a, .int .i64 0, .int .i64 1000000000000] W fun e w' => e = .returned (.bool (decide (0 ≤ a ∧ a ≤ 1000000000000))) ∧ w' = W) := fun W => cal.cin a 0 1000000000000 W
  have HI2 : Hid (∀ W, Calls Try.prog 47 #[.int .i64 b, .int .i64 0, .int .i64 10000] W fun e w' => e = .returned (.bool (decide (0 ≤ b ∧ b ≤ 10000))) ∧ w' = W) := fun W => cal.cin b 0 10000 W
  rw [decide_eq_true h.1] at HI1
  rw [decide_eq_true h.2] at HI2
  obtain ⟨⟨h1, h2⟩, h3, h4⟩ := h
  obtain ⟨p1, p2⟩ := prod_le (a / 10000) b 100000000 10000 (by omega) (by omega) h3 h4
  obtain ⟨p3, p4⟩ := prod_le (a % 10000) b 10000 10000 (by omega) (by omega) h3 h4
  rw [← part_split]
  go_enter Try.func72, Try.ntmps72
  go_wp2_with fail
  refine (HI1.out _).mono ?_
  rintro e w1 ⟨rfl, hw1⟩
  subst hw1
  go_wp2_with fail
  refine (HI2.out _).mono ?_
  rintro e w1 ⟨rfl, hw1⟩
  subst hw1
  go_wp2
  go_ret2
  exact ⟨rfl, rfl⟩
set_option maxHeartbeats 1000000 in
theorem rnopart (a b : Int) (w : World) (h : 0 ≤ a ∧ a ≤ 1000000000000) (hb : ¬ (0 ≤ b ∧ b ≤ 10000)) :
    Calls Try.prog 72 #[.int .i64 a, .int .i64 b] w fun e w' => e = .returned (.tuple #[.int .i64 0, .int .i64 2]) ∧ w' = w := by
  have HI1 : Hid (∀ W, Calls Try.prog 47 #[.int .i64 a, .int .i64 0, .int .i64 1000000000000] W fun e w' => e = .returned (.bool (decide (0 ≤ a ∧ a ≤ 1000000000000))) ∧ w' = W) := fun W => cal.cin a 0 1000000000000 W
  have HI2 : Hid (∀ W, Calls Try.prog 47 #[.int .i64 b, .int .i64 0, .int .i64 10000] W fun e w' => e = .returned (.bool (decide (0 ≤ b ∧ b ≤ 10000))) ∧ w' = W) := fun W => cal.cin b 0 10000 W
  rw [decide_eq_true h] at HI1
  rw [decide_eq_false hb] at HI2
  clear h hb
  go_enter Try.func72, Try.ntmps72
  go_wp2_with fail
  refine (HI1.out _).mono ?_
  rintro e w1 ⟨rfl, hw1⟩
  subst hw1
  go_wp2_with fail
  refine (HI2.out _).mono ?_
  rintro e w1 ⟨rfl, hw1⟩
  subst hw1
  go_wp2
  go_ret2
  exact ⟨rfl, rfl⟩
set_option maxHeartbeats 1000000 in
theorem rshare (t bp : Int) (w : World) : Calls Try.prog 83 #[.int .i64 t, .int .i64 bp] w fun e w' => ∃ s f, e = .returned (.tuple #[.int .i64 s, .int .i64 f]) ∧ ShareIs t bp s f ∧ w' = w := by
  have HIT : Hid (∀ W, Calls Try.prog 47 #[.int .i64 t, .int .i64 0, .int .i64 100000000] W fun e w' => e = .returned (.bool (decide (0 ≤ t ∧ t ≤ 100000000))) ∧ w' = W) := fun W => cal.cin t 0 100000000 W
  by_cases ht : 0 ≤ t ∧ t ≤ 100000000
  · rw [decide_eq_true ht] at HIT
    by_cases hb : 0 ≤ bp ∧ bp ≤ 10000
    · have HPA : Hid (∀ W, Calls Try.prog 72 #[.int .i64 t, .int .i64 bp] W fun e w' => e = .returned (.tuple #[.int .i64 (t * bp / 10000), .int .i64 0]) ∧ w' = W) := fun W => rparted t bp W ⟨⟨ht.1, by omega⟩, hb⟩
      have HT : Hid (TMay t bp) := ⟨ht, hb⟩
      clear ht hb
      go_enter Try.func83, Try.ntmps83
      go_wp2_with fail
      refine (HIT.out _).mono ?_
      rintro e w1 ⟨rfl, hw1⟩
      subst hw1
      go_wp2_with fail
      refine (HPA.out _).mono ?_
      rintro e w1 ⟨rfl, hw1⟩
      subst hw1
      go_wp2_with fail
      go_ret2
      exact ⟨_, _, rfl, .inl ⟨HT.out, rfl, rfl⟩, rfl⟩
    · have HPA : Hid (∀ W, Calls Try.prog 72 #[.int .i64 t, .int .i64 bp] W fun e w' => e = .returned (.tuple #[.int .i64 0, .int .i64 2]) ∧ w' = W) := fun W => rnopart t bp W ⟨ht.1, by omega⟩ hb
      have HT : Hid (¬ TMay t bp) := fun h => hb h.2
      clear ht hb
      go_enter Try.func83, Try.ntmps83
      go_wp2_with fail
      refine (HIT.out _).mono ?_
      rintro e w1 ⟨rfl, hw1⟩
      subst hw1
      go_wp2_with fail
      refine (HPA.out _).mono ?_
      rintro e w1 ⟨rfl, hw1⟩
      subst hw1
      go_wp2_with fail
      go_ret2
      exact ⟨_, _, rfl, .inr ⟨HT.out, rfl, rfl⟩, rfl⟩
  · rw [decide_eq_false ht] at HIT
    have HT : Hid (¬ TMay t bp) := fun h => ht h.1
    clear ht
    go_enter Try.func83, Try.ntmps83
    go_wp2_with fail
    refine (HIT.out _).mono ?_
    rintro e w1 ⟨rfl, hw1⟩
    subst hw1
    go_wp2_with fail
    go_ret2
    exact ⟨_, _, rfl, .inr ⟨HT.out, rfl, rfl⟩, rfl⟩

end Go.Proofs.Ytfhlokjpdkmdjaa.deb
