/- calendar.Weekday. -/
import Derived.Test.YtgeemnoefhnlnabCpD
import Derived.Test.YtgeemnoefhnlnabKaWeek
namespace Go.Proofs.Ytgeemnoefhnlnab.cal
open Go.RowKit
set_option maxRecDepth 100000
set_option linter.unusedVariables false
set_option linter.unusedSimpArgs false

set_option maxHeartbeats 1000000 in
theorem kweek : KaWeek := by
  intro w day _
  have HIN : Hid (∀ W, Calls Try.prog 11 #[.int .i64 day] W fun e w' => e = .returned (.bool (decide (0 ≤ day ∧ day ≤ 73048))) ∧ w' = W) := fun W => pisDay day W
  by_cases hd : 0 ≤ day ∧ day ≤ 73048
  · rw [decide_eq_true hd] at HIN
    have HD : Hid (0 ≤ day ∧ day ≤ 73048) := hd
    obtain ⟨hd0, hd1⟩ := hd
    have hr : Int.tmod (5 + day) 7 = (5 + day) % 7 := Int.tmod_eq_emod_of_nonneg (by omega)
    have HW : Hid ((5 + day) % 7 = (day + 5) % 7) := by show _ = _; rw [Int.add_comm]
    have hr0 : 0 ≤ (5 + day) % 7 := by omega
    have hr1 : (5 + day) % 7 ≤ 6 := by omega
    generalize (5 + day) % 7 = r at *
    go_enter Try.func10, Try.ntmps10
    go_wp2_with fail
    refine (HIN.out _).mono ?_
    rintro e w1 ⟨rfl, rfl⟩
    go_wp2_with fail
    go_ret2
    exact ⟨_, _, rfl, .inl ⟨HD.out, HW.out, rfl⟩, Below.refl _ _⟩
  · rw [decide_eq_false hd] at HIN
    have HD : Hid (¬ (0 ≤ day ∧ day ≤ 73048)) := hd
    clear hd
    go_enter Try.func10, Try.ntmps10
    go_wp2_with fail
    refine (HIN.out _).mono ?_
    rintro e w1 ⟨rfl, rfl⟩
    go_wp2_with fail
    go_ret2
    exact ⟨_, _, rfl, .inr ⟨HD.out, rfl, rfl⟩, Below.refl _ _⟩

end Go.Proofs.Ytgeemnoefhnlnab.cal
