/- Leap days, and how long a month is. -/
import Derived.Test.YtgeemnoefhnlnaaCaN
import Derived.WalkKit
import Derived.Below
import Derived.Test.YtgeemnoefhnlnaaProg
namespace Go.Proofs.Ytgeemnoefhnlnaa.cal
open Go.RowKit
set_option maxRecDepth 100000
set_option linter.unusedVariables false
set_option linter.unusedSimpArgs false

/-- The leap days by the end of a year. -/
def lp (y : Nat) : Nat := y / 4 - y / 100 + y / 400
theorem lp_le (y : Nat) : lp y ≤ y := by unfold lp; omega
theorem pleap (y : Nat) (w : World) (h1 : y ≤ 1000000) : Calls Try.prog 30 #[.int .i64 (y : Int)] w fun e w' => e = .returned (.int .i64 (lp y : Int)) ∧ w' = w := by
  have q1 : Int.tdiv (y : Int) 4 = ((y / 4 : Nat) : Int) := by rw [Int.tdiv_eq_ediv_of_nonneg (by omega)]; omega
  have q2 : Int.tdiv (y : Int) 100 = ((y / 100 : Nat) : Int) := by rw [Int.tdiv_eq_ediv_of_nonneg (by omega)]; omega
  have q3 : Int.tdiv (y : Int) 400 = ((y / 400 : Nat) : Int) := by rw [Int.tdiv_eq_ediv_of_nonneg (by omega)]; omega
  have HE : Hid (((y / 4 : Nat) : Int) - ((y / 100 : Nat) : Int) + ((y / 400 : Nat) : Int) = (lp y : Int)) := by show _ = _; unfold lp; omega
  have b1 : y / 4 ≤ 1000000 := by omega
  have b2 : y / 100 ≤ y / 4 := by omega
  have b3 : y / 400 ≤ 1000000 := by omega
  generalize y / 4 = a at *
  generalize y / 100 = b at *
  generalize y / 400 = c at *
  go_enter Try.func30, Try.ntmps30
  go_wp2
  go_ret
  exact ⟨by rw [← HE.out]; rfl, rfl⟩
theorem feb_lp (j : Nat) : ml (2000 + (j : Int)) 2 = 28 + (lp (2000 + j) : Int) - (lp (1999 + j) : Int) := by
  rw [ml_feb]
  unfold lp
  split <;> omega
theorem pfeb (j : Nat) (hj : j ≤ 1000) (w : World) : Calls Try.prog 29 #[.int .i64 (2000 + (j : Int)), .int .i64 2] w fun e w' => e = .returned (.int .i64 (ml (2000 + (j : Int)) 2)) ∧ w' = w := by
  have HE : Hid (28 + (lp (2000 + j) : Int) - (lp (1999 + j) : Int) = ml (2000 + (j : Int)) 2) := (feb_lp j).symm
  have H1 : Hid (∀ W, Calls Try.prog 30 #[.int .i64 (2000 + (j : Int))] W fun e w' => e = .returned (.int .i64 (lp (2000 + j) : Int)) ∧ w' = W) := fun W => by
    have := pleap (2000 + j) W (by omega)
    rwa [show ((2000 + j : Nat) : Int) = 2000 + (j : Int) by omega] at this
  have H2 : Hid (∀ W, Calls Try.prog 30 #[.int .i64 (2000 + (j : Int) - 1)] W fun e w' => e = .returned (.int .i64 (lp (1999 + j) : Int)) ∧ w' = W) := fun W => by
    have := pleap (1999 + j) W (by omega)
    rwa [show ((1999 + j : Nat) : Int) = 2000 + (j : Int) - 1 by omega] at this
  have b1 := lp_le (2000 + j)
  have b2 := lp_le (1999 + j)
  generalize lp (2000 + j) = a at *
  generalize lp (1999 + j) = b at *
  go_enter Try.func29, Try.ntmps29
  go_wp2_with fail
  refine (H1.out _).mono ?_
  rintro e w1 ⟨rfl, rfl⟩
  go_wp2_with fail
  refine (H2.out _).mono ?_
  rintro e w1 ⟨rfl, rfl⟩
  go_wp2_with fail
  go_ret
  exact ⟨by rw [← HE.out]; rfl, rfl⟩
theorem pl1 (y : Int) (w : World) : Calls Try.prog 29 #[.int .i64 y, .int .i64 1] w fun e w' => e = .returned (.int .i64 31) ∧ w' = w := by
  go_enter Try.func29, Try.ntmps29
  go_wp2
  go_ret
  exact ⟨rfl, rfl⟩
theorem pl3 (y : Int) (w : World) : Calls Try.prog 29 #[.int .i64 y, .int .i64 3] w fun e w' => e = .returned (.int .i64 31) ∧ w' = w := by
  go_enter Try.func29, Try.ntmps29
  go_wp2
  go_ret
  exact ⟨rfl, rfl⟩
theorem pl4 (y : Int) (w : World) : Calls Try.prog 29 #[.int .i64 y, .int .i64 4] w fun e w' => e = .returned (.int .i64 30) ∧ w' = w := by
  go_enter Try.func29, Try.ntmps29
  go_wp2
  go_ret
  exact ⟨rfl, rfl⟩
theorem pl5 (y : Int) (w : World) : Calls Try.prog 29 #[.int .i64 y, .int .i64 5] w fun e w' => e = .returned (.int .i64 31) ∧ w' = w := by
  go_enter Try.func29, Try.ntmps29
  go_wp2
  go_ret
  exact ⟨rfl, rfl⟩
theorem pl6 (y : Int) (w : World) : Calls Try.prog 29 #[.int .i64 y, .int .i64 6] w fun e w' => e = .returned (.int .i64 30) ∧ w' = w := by
  go_enter Try.func29, Try.ntmps29
  go_wp2
  go_ret
  exact ⟨rfl, rfl⟩
theorem pl7 (y : Int) (w : World) : Calls Try.prog 29 #[.int .i64 y, .int .i64 7] w fun e w' => e = .returned (.int .i64 31) ∧ w' = w := by
  go_enter Try.func29, Try.ntmps29
  go_wp2
  go_ret
  exact ⟨rfl, rfl⟩
theorem pl8 (y : Int) (w : World) : Calls Try.prog 29 #[.int .i64 y, .int .i64 8] w fun e w' => e = .returned (.int .i64 31) ∧ w' = w := by
  go_enter Try.func29, Try.ntmps29
  go_wp2
  go_ret
  exact ⟨rfl, rfl⟩
theorem pl9 (y : Int) (w : World) : Calls Try.prog 29 #[.int .i64 y, .int .i64 9] w fun e w' => e = .returned (.int .i64 30) ∧ w' = w := by
  go_enter Try.func29, Try.ntmps29
  go_wp2
  go_ret
  exact ⟨rfl, rfl⟩
theorem pl10 (y : Int) (w : World) : Calls Try.prog 29 #[.int .i64 y, .int .i64 10] w fun e w' => e = .returned (.int .i64 31) ∧ w' = w := by
  go_enter Try.func29, Try.ntmps29
  go_wp2
  go_ret
  exact ⟨rfl, rfl⟩
theorem pl11 (y : Int) (w : World) : Calls Try.prog 29 #[.int .i64 y, .int .i64 11] w fun e w' => e = .returned (.int .i64 30) ∧ w' = w := by
  go_enter Try.func29, Try.ntmps29
  go_wp2
  go_ret
  exact ⟨rfl, rfl⟩
theorem pl12 (y : Int) (w : World) : Calls Try.prog 29 #[.int .i64 y, .int .i64 12] w fun e w' => e = .returned (.int .i64 31) ∧ w' = w := by
  go_enter Try.func29, Try.ntmps29
  go_wp2
  go_ret
  exact ⟨rfl, rfl⟩
/-- How long a month is, by the program. -/
theorem plength (j i : Nat) (hj : j ≤ 1000) (hi : i ≤ 11) (w : World) : Calls Try.prog 29 #[.int .i64 (2000 + (j : Int)), .int .i64 ((i : Int) + 1)] w fun e w' => e = .returned (.int .i64 (ml (2000 + (j : Int)) ((i : Int) + 1))) ∧ w' = w := by
  have hm : i = 0 ∨ i = 1 ∨ i = 2 ∨ i = 3 ∨ i = 4 ∨ i = 5 ∨ i = 6 ∨ i = 7 ∨ i = 8 ∨ i = 9 ∨ i = 10 ∨ i = 11 := by omega
  rcases hm with rfl | rfl | rfl | rfl | rfl | rfl | rfl | rfl | rfl | rfl | rfl | rfl
  · exact pl1 _ w
  · exact pfeb j hj w
  · exact pl3 _ w
  · exact pl4 _ w
  · exact pl5 _ w
  · exact pl6 _ w
  · exact pl7 _ w
  · exact pl8 _ w
  · exact pl9 _ w
  · exact pl10 _ w
  · exact pl11 _ w
  · exact pl12 _ w

end Go.Proofs.Ytgeemnoefhnlnaa.cal
