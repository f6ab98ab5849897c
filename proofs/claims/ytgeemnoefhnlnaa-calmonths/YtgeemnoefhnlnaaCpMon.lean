/- calendar.Month. -/
import Derived.Test.YtgeemnoefhnlnaaCpM
import Derived.Test.YtgeemnoefhnlnaaCpD
import Derived.Test.YtgeemnoefhnlnaaKaMon
namespace Go.Proofs.Ytgeemnoefhnlnaa.cal
open Go.RowKit
set_option maxRecDepth 100000
set_option linter.unusedVariables false
set_option linter.unusedSimpArgs false

set_option maxHeartbeats 1000000 in
theorem kmon : KaMon := by
  intro w day _
  have HIN : Hid (∀ W, Calls Try.prog 24 #[.int .i64 day] W fun e w' => e = .returned (.bool (decide (0 ≤ day ∧ day ≤ 73048))) ∧ w' = W) := fun W => pisDay day W
  by_cases hd : 0 ≤ day ∧ day ≤ 73048
  · rw [decide_eq_true hd] at HIN
    have HD : Hid (0 ≤ day ∧ day ≤ 73048) := hd
    have HMF : Hid (∀ W, Calls Try.prog 25 #[.int .i64 day] W fun e w' => InPost W day e w') := fun W => pmonthOf day W hd.1 hd.2
    clear hd
    go_enter Try.func13, Try.ntmps13
    go_wp2_with fail
    refine (HIN.out _).mono ?_
    rintro e w1 ⟨rfl, rfl⟩
    go_wp2_with fail
    refine (HMF.out _).mono ?_
    rintro e w2 ⟨k, hk, hi, rfl, hB⟩
    have HK : Hid (k < 2400 ∧ InMon day k ∧ Below w1.heap.size w1 w2) := ⟨hk, hi, hB⟩
    clear hk hi hB HMF HIN
    go_wp2_with fail
    go_ret2
    exact ⟨_, _, rfl, .inl ⟨HD.out, ⟨k, HK.out.1, HK.out.2.1, rfl⟩, rfl⟩, HK.out.2.2⟩
  · rw [decide_eq_false hd] at HIN
    have HD : Hid (¬ (0 ≤ day ∧ day ≤ 73048)) := hd
    clear hd
    go_enter Try.func13, Try.ntmps13
    go_wp2_with fail
    refine (HIN.out _).mono ?_
    rintro e w1 ⟨rfl, rfl⟩
    go_wp2_with fail
    go_ret2
    exact ⟨_, _, rfl, .inr ⟨HD.out, rfl, rfl⟩, Below.refl _ _⟩

end Go.Proofs.Ytgeemnoefhnlnaa.cal
