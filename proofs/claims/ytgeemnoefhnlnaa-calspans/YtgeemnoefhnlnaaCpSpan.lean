/- calendar.Days. -/
import Derived.Test.YtgeemnoefhnlnaaCpA
import Derived.Test.YtgeemnoefhnlnaaKaSpan
import Derived.OwnWalk
namespace Go.Proofs.Ytgeemnoefhnlnaa.cal
open Go.RowKit
set_option maxRecDepth 100000
set_option linter.unusedVariables false
set_option linter.unusedSimpArgs false

set_option maxHeartbeats 1000000 in
theorem kspan : KaSpan := by
  intro w mo _
  by_cases h1 : 0 ≤ mo
  · by_cases h2 : mo ≤ 2399
    · have HD : Hid (0 ≤ mo ∧ mo ≤ 2399) := ⟨h1, h2⟩
      obtain ⟨k, rfl⟩ := Int.eq_ofNat_of_zero_le h1
      have HF1 : Hid (∀ W, Calls Try.prog 27 #[.int .i64 (k : Int)] W fun e w' => e = .returned (.int .i64 (cd k)) ∧ w' = W) := fun W => pfirst k (by omega) W
      have HF2 : Hid (∀ W, Calls Try.prog 27 #[.int .i64 ((k : Int) + 1)] W fun e w' => e = .returned (.int .i64 (cd (k + 1))) ∧ w' = W) := fun W => by
        have := pfirst (k + 1) (by omega) W
        rwa [show ((k + 1 : Nat) : Int) = (k : Int) + 1 by omega] at this
      have hc0 := cd_pos (k + 1)
      have hc1 : cd (k + 1) ≤ 73049 := by have := cd_le (show k + 1 ≤ 2400 by omega); rwa [cd_end] at this
      have q1 : decide ((k : Int) < 0) = false := decide_eq_false (by omega)
      have q2 : decide (2399 < (k : Int)) = false := by simp; omega
      have HT : Hid ((k : Int).toNat = k) := by show _ = _; omega
      generalize hca : cd k = a at *
      generalize hcb : cd (k + 1) = b at *
      have HC : Hid (cd k = a ∧ cd (k + 1) = b) := ⟨hca, hcb⟩
      clear hca hcb
      go_enter Try.func15, Try.ntmps15
      go_wp2_with fail
      refine (HF1.out _).mono ?_
      rintro e w1 ⟨rfl, rfl⟩
      go_wp2_with fail
      refine (HF2.out _).mono ?_
      rintro e w1 ⟨rfl, rfl⟩
      go_wp2_with fail
      go_ret3
      exact ⟨_, _, _, rfl, .inl ⟨HD.out, by rw [HT.out, HC.out.1], by rw [HT.out, HC.out.2], rfl⟩, Below.refl _ _⟩
    · have HD : Hid (¬ (0 ≤ mo ∧ mo ≤ 2399)) := fun h => h2 h.2
      have q1 : decide (mo < 0) = false := by simp; omega
      have q2 : decide (2399 < mo) = true := by simp; omega
      go_enter Try.func15, Try.ntmps15
      go_wp2_with fail
      go_ret3
      exact ⟨_, _, _, rfl, .inr ⟨HD.out, rfl, rfl, rfl⟩, Below.refl _ _⟩
  · have HD : Hid (¬ (0 ≤ mo ∧ mo ≤ 2399)) := fun h => h1 h.1
    have q1 : decide (mo < 0) = true := by simp; omega
    go_enter Try.func15, Try.ntmps15
    go_wp2_with fail
    go_ret3
    exact ⟨_, _, _, rfl, .inr ⟨HD.out, rfl, rfl, rfl⟩, Below.refl _ _⟩

end Go.Proofs.Ytgeemnoefhnlnaa.cal
