/- How long a month is, as the document has it. -/
import Derived.Test.YtgeemnoefhnlnaaCaN
import Derived.Test.YtgeemnoefhnlnaaCaIn
namespace Go.Proofs.Ytgeemnoefhnlnaa.cal
open Go.RowKit
set_option maxRecDepth 100000
set_option linter.unusedVariables false
set_option linter.unusedSimpArgs false

theorem feb1 (y : Int) (w : World) (h0 : 0 ≤ y) (h1 : y ≤ 1000000) (a : (y % 400 == 0) = true) : Calls Try.prog 23 #[.int .i64 y, .int .i64 2] w fun e w' => e = .returned (.int .i64 29) ∧ w' = w := by
  go_enter Try.func23, Try.ntmps23
  go_wp2
  all_goals first
    | (rename_i q1 q2; exact absurd q1 (by simp [undef]))
    | (go_ret; exact ⟨rfl, rfl⟩)
theorem feb2 (y : Int) (w : World) (h0 : 0 ≤ y) (h1 : y ≤ 1000000) (a : (y % 400 == 0) = false) (b : (y % 4 == 0) = true) (c : (y % 100 != 0) = true) : Calls Try.prog 23 #[.int .i64 y, .int .i64 2] w fun e w' => e = .returned (.int .i64 29) ∧ w' = w := by
  go_enter Try.func23, Try.ntmps23
  go_wp2
  all_goals first
    | (rename_i q1 q2; exact absurd q1 (by simp [undef]))
    | (go_ret; exact ⟨rfl, rfl⟩)
theorem feb3 (y : Int) (w : World) (h0 : 0 ≤ y) (h1 : y ≤ 1000000) (a : (y % 400 == 0) = false) (b : (y % 4 == 0) = true) (c : (y % 100 != 0) = false) : Calls Try.prog 23 #[.int .i64 y, .int .i64 2] w fun e w' => e = .returned (.int .i64 28) ∧ w' = w := by
  go_enter Try.func23, Try.ntmps23
  go_wp2
  all_goals first
    | (rename_i q1 q2; exact absurd q1 (by simp [undef]))
    | (go_ret; exact ⟨rfl, rfl⟩)
theorem feb4 (y : Int) (w : World) (h0 : 0 ≤ y) (h1 : y ≤ 1000000) (a : (y % 400 == 0) = false) (b : (y % 4 == 0) = false) : Calls Try.prog 23 #[.int .i64 y, .int .i64 2] w fun e w' => e = .returned (.int .i64 28) ∧ w' = w := by
  go_enter Try.func23, Try.ntmps23
  go_wp2
  all_goals first
    | (rename_i q1 q2; exact absurd q1 (by simp [undef]))
    | (go_ret; exact ⟨rfl, rfl⟩)
theorem mon4 (y : Int) (w : World) : Calls Try.prog 23 #[.int .i64 y, .int .i64 4] w fun e w' => e = .returned (.int .i64 30) ∧ w' = w := by
  go_enter Try.func23, Try.ntmps23
  go_wp2
  go_ret
  exact ⟨rfl, rfl⟩
theorem mon6 (y : Int) (w : World) : Calls Try.prog 23 #[.int .i64 y, .int .i64 6] w fun e w' => e = .returned (.int .i64 30) ∧ w' = w := by
  go_enter Try.func23, Try.ntmps23
  go_wp2
  go_ret
  exact ⟨rfl, rfl⟩
theorem mon9 (y : Int) (w : World) : Calls Try.prog 23 #[.int .i64 y, .int .i64 9] w fun e w' => e = .returned (.int .i64 30) ∧ w' = w := by
  go_enter Try.func23, Try.ntmps23
  go_wp2
  go_ret
  exact ⟨rfl, rfl⟩
theorem mon11 (y : Int) (w : World) : Calls Try.prog 23 #[.int .i64 y, .int .i64 11] w fun e w' => e = .returned (.int .i64 30) ∧ w' = w := by
  go_enter Try.func23, Try.ntmps23
  go_wp2
  go_ret
  exact ⟨rfl, rfl⟩
theorem mon1 (y : Int) (w : World) : Calls Try.prog 23 #[.int .i64 y, .int .i64 1] w fun e w' => e = .returned (.int .i64 31) ∧ w' = w := by
  go_enter Try.func23, Try.ntmps23
  go_wp2
  go_ret
  exact ⟨rfl, rfl⟩
theorem mon3 (y : Int) (w : World) : Calls Try.prog 23 #[.int .i64 y, .int .i64 3] w fun e w' => e = .returned (.int .i64 31) ∧ w' = w := by
  go_enter Try.func23, Try.ntmps23
  go_wp2
  go_ret
  exact ⟨rfl, rfl⟩
theorem mon5 (y : Int) (w : World) : Calls Try.prog 23 #[.int .i64 y, .int .i64 5] w fun e w' => e = .returned (.int .i64 31) ∧ w' = w := by
  go_enter Try.func23, Try.ntmps23
  go_wp2
  go_ret
  exact ⟨rfl, rfl⟩
theorem mon7 (y : Int) (w : World) : Calls Try.prog 23 #[.int .i64 y, .int .i64 7] w fun e w' => e = .returned (.int .i64 31) ∧ w' = w := by
  go_enter Try.func23, Try.ntmps23
  go_wp2
  go_ret
  exact ⟨rfl, rfl⟩
theorem mon8 (y : Int) (w : World) : Calls Try.prog 23 #[.int .i64 y, .int .i64 8] w fun e w' => e = .returned (.int .i64 31) ∧ w' = w := by
  go_enter Try.func23, Try.ntmps23
  go_wp2
  go_ret
  exact ⟨rfl, rfl⟩
theorem mon10 (y : Int) (w : World) : Calls Try.prog 23 #[.int .i64 y, .int .i64 10] w fun e w' => e = .returned (.int .i64 31) ∧ w' = w := by
  go_enter Try.func23, Try.ntmps23
  go_wp2
  go_ret
  exact ⟨rfl, rfl⟩
theorem mon12 (y : Int) (w : World) : Calls Try.prog 23 #[.int .i64 y, .int .i64 12] w fun e w' => e = .returned (.int .i64 31) ∧ w' = w := by
  go_enter Try.func23, Try.ntmps23
  go_wp2
  go_ret
  exact ⟨rfl, rfl⟩
theorem mlong (y m : Int) (w : World) (h0 : 0 ≤ y) (h1 : y ≤ 1000000) (m1 : 1 ≤ m) (m2 : m ≤ 12) : Calls Try.prog 23 #[.int .i64 y, .int .i64 m] w fun e w' => e = .returned (.int .i64 (ml y m)) ∧ w' = w := by
  have hm : m = 1 ∨ m = 2 ∨ m = 3 ∨ m = 4 ∨ m = 5 ∨ m = 6 ∨ m = 7 ∨ m = 8 ∨ m = 9 ∨ m = 10 ∨ m = 11 ∨ m = 12 := by omega
  rcases hm with rfl | rfl | rfl | rfl | rfl | rfl | rfl | rfl | rfl | rfl | rfl | rfl
  · exact mon1 y w
  · by_cases a : y % 400 = 0
    · have : ml y 2 = 29 := by unfold ml; rw [if_pos rfl, if_pos (.inl a)]
      rw [this]
      exact feb1 y w h0 h1 (by simpa using a)
    · by_cases b : y % 4 = 0
      · by_cases c : y % 100 = 0
        · have : ml y 2 = 28 := by unfold ml; rw [if_pos rfl, if_neg (by omega)]
          rw [this]
          exact feb3 y w h0 h1 (by simpa using a) (by simpa using b) (by simpa using c)
        · have : ml y 2 = 29 := by unfold ml; rw [if_pos rfl, if_pos (by omega)]
          rw [this]
          exact feb2 y w h0 h1 (by simpa using a) (by simpa using b) (by simpa using c)
      · have : ml y 2 = 28 := by unfold ml; rw [if_pos rfl, if_neg (by omega)]
        rw [this]
        exact feb4 y w h0 h1 (by simpa using a) (by simpa using b)
  · exact mon3 y w
  · exact mon4 y w
  · exact mon5 y w
  · exact mon6 y w
  · exact mon7 y w
  · exact mon8 y w
  · exact mon9 y w
  · exact mon10 y w
  · exact mon11 y w
  · exact mon12 y w
/-- Of a month by its number. -/
theorem mlong_at (k : Nat) (hk : k ≤ 2400) (w : World) : Calls Try.prog 23 #[.int .i64 (2000 + ((k / 12 : Nat) : Int)), .int .i64 (((k % 12 : Nat) : Int) + 1)] w fun e w' => e = .returned (.int .i64 (mk k)) ∧ w' = w := mlong _ _ w (by omega) (by omega) (by omega) (by omega)
theorem quo12 (k : Nat) : Int.tdiv (k : Int) 12 = ((k / 12 : Nat) : Int) := by rw [Int.tdiv_eq_ediv_of_nonneg (by omega)]; omega
theorem rem12 (k : Nat) : Int.tmod (k : Int) 12 = ((k % 12 : Nat) : Int) := by rw [Int.tmod_eq_emod_of_nonneg (by omega)]; omega
set_option maxHeartbeats 1000000 in
/-- The month of a day, and the days of it that are gone. -/
theorem mfrom (day : Int) (w : World) (h0 : 0 ≤ day) (h1 : day ≤ 73048) : Calls Try.prog 28 #[.int .i64 day] w fun e w' => ∃ k : Nat, k < 2400 ∧ InMon day k ∧ e = .returned (.tuple #[.int .i64 (k : Int), .int .i64 (day - cd k)]) ∧ w' = w := by
  have HML : Hid (∀ (j i : Nat) W, j ≤ 200 → i ≤ 11 → Calls Try.prog 23 #[.int .i64 (2000 + (j : Int)), .int .i64 ((i : Int) + 1)] W fun e w' => e = .returned (.int .i64 (ml (2000 + (j : Int)) ((i : Int) + 1))) ∧ w' = W) := fun j i W hj hi => mlong _ _ W (by omega) (by omega) (by omega) (by omega)
  go_enter Try.func28, Try.ntmps28
  go_wp2_with fail
  go_loopw [0, 4] (fun v i wr => ∃ k : Nat, k < 2400 ∧ i = .int .i64 (k : Int) ∧ v = .int .i64 (day - cd k) ∧ cd k ≤ day ∧ wr = w) (fun _ i _ => 2400 - (intOf i).toNat)
  case atStart => exact ⟨0, by decide, rfl, by rw [show cd 0 = 0 from rfl]; simp, h0, rfl⟩
  case round =>
    obtain ⟨k, hk, rfl, rfl, hc, rfl⟩ := hrel
    have hq := quo12 k
    have hr := rem12 k
    have hj : k / 12 ≤ 200 := by omega
    have hi : k % 12 ≤ 11 := by omega
    have hb := mk_bd k
    have HMK : Hid (ml (2000 + ((k / 12 : Nat) : Int)) (((k % 12 : Nat) : Int) + 1) = mk k) := rfl
    have HCD : Hid (cd (k + 1) = cd k + mk k) := rfl
    have HEN : Hid (∀ j, cd j ≤ day → j < 2400) := fun j hj => by
      by_cases e : j < 2400
      · exact e
      · have := cd_le (show 2400 ≤ j by omega)
        rw [cd_end] at this; omega
    have hcp := cd_pos k
    have HMQ : Hid (∀ W, Calls Try.prog 23 #[.int .i64 (2000 + ((k / 12 : Nat) : Int)), .int .i64 (((k % 12 : Nat) : Int) + 1)] W fun e w' => e = .returned (.int .i64 (mk k)) ∧ w' = W) := fun W => HML.out _ _ W hj hi
    have HIN : Hid (day < cd k + mk k → InMon day k) := fun h => ⟨hc, by rw [HCD.out]; exact h⟩
    generalize k / 12 = j at *
    generalize k % 12 = i at *
    generalize mk k = mv at *
    by_cases hlt : cd k + mv ≤ day
    · have HNE : Hid (cd (k + 1) ≤ day) := by show _ ≤ _; rw [HCD.out]; exact hlt
      have HN2 : Hid (day - cd k - mv = day - cd (k + 1)) := by show _ = _; rw [HCD.out]; omega
      have hd : decide (mv ≤ day - cd k) = true := by simp; omega
      generalize cd k = c at *
      clear HIN
      go_wp2_with fail
      refine (HMQ.out _).mono ?_
      rintro e w1 ⟨rfl, hw1⟩
      subst hw1
      go_wp2_with fail
      refine (HMQ.out _).mono ?_
      rintro e w2 ⟨rfl, hw2⟩
      subst hw2
      go_wp2_with fail
      go_roundw
      case rel => exact ⟨k + 1, HEN.out _ HNE.out, by go_num, by rw [← HN2.out], HNE.out, by first | rfl | trivial⟩
      case measure => simp [intOf]; omega
    · have HIM : Hid (InMon day k) := HIN.out (by omega)
      have hd : decide (mv ≤ day - cd k) = false := by simp; omega
      clear HIN
      generalize hcc : cd k = c at *
      have HCC : Hid (cd k = c) := hcc
      clear hcc
      go_wp2_with fail
      refine (HMQ.out _).mono ?_
      rintro e w1 ⟨rfl, hw1⟩
      subst hw1
      go_wp2_with fail
      go_ret2
      exact ⟨k, hk, HIM.out, by rw [HCC.out]; rfl, rfl⟩

end Go.Proofs.Ytgeemnoefhnlnaa.cal
