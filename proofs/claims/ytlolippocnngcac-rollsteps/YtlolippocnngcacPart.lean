/- What cents.Part gives back. -/
import Derived.Test.YtlolippocnngcacWithin
namespace Go.Proofs.Ytlolippocnngcac.cents
open Go.RowKit

theorem split_sum (a b : Int) : a * (10000 - b) = a * 10000 - a * b := by rw [Int.mul_sub]
theorem split_yes (a b : Int) (h : a * b % 10000 = 0) : a * b / 10000 + a * (10000 - b) / 10000 = a := by
  rw [split_sum]
  generalize a * b = p at *
  omega
theorem split_no (a b : Int) (h : ¬ a * b % 10000 = 0) : a * b / 10000 + a * (10000 - b) / 10000 = a - 1 := by
  rw [split_sum]
  generalize a * b = p at *
  omega

set_option maxHeartbeats 400000 in
theorem part_yes (a b : Int) (w : World) (h1 : 0 ≤ a) (h2 : a ≤ 1000000000000) (h3 : 0 ≤ b) (h4 : b ≤ 10000) :
    Calls Try.prog 21 #[.int .i64 a, .int .i64 b] w fun e w' => e = .returned (.tuple #[.int .i64 (a * b / 10000), .int .i64 0]) ∧ Below w.heap.size w w' := by
  obtain ⟨hp1, hp2⟩ := prod_bd a b _ _ h1 h2 h3 h4
  go_enter Try.func21, Try.ntmps21
  go_wp2_with fail
  refine (within_one_yes _ _ _ _ _ rfl h1 h2).mono ?_
  rintro e w' ⟨rfl, rfl⟩
  go_wp2_with fail
  refine (within_one_yes _ _ _ _ _ (by simp) h3 h4).mono ?_
  rintro e w' ⟨rfl, rfl⟩
  go_wp2
  go_ret2
  exact ⟨rfl, bel2 _ _ _⟩

set_option maxHeartbeats 400000 in
theorem part_no (a b : Int) (w : World) (h : (a < 0 ∨ 1000000000000 < a) ∨ (b < 0 ∨ 10000 < b)) :
    Calls Try.prog 21 #[.int .i64 a, .int .i64 b] w fun e w' => e = .returned (.tuple #[.int .i64 0, .int .i64 2]) ∧ Below w.heap.size w w' := by
  by_cases h0 : a < 0 ∨ 1000000000000 < a
  · clear h
    go_enter Try.func21, Try.ntmps21
    go_wp2_with fail
    refine (within_one_no _ _ _ _ _ rfl h0).mono ?_
    rintro e w' ⟨rfl, rfl⟩
    go_wp2
    go_ret2
    exact ⟨rfl, bel1 _ _⟩
  · have h5 : b < 0 ∨ 10000 < b := by omega
    have h1 : 0 ≤ a := by omega
    have h2 : a ≤ 1000000000000 := by omega
    clear h h0
    go_enter Try.func21, Try.ntmps21
    go_wp2_with fail
    refine (within_one_yes _ _ _ _ _ rfl h1 h2).mono ?_
    rintro e w' ⟨rfl, rfl⟩
    go_wp2_with fail
    refine (within_one_no _ _ _ _ _ (by simp) h5).mono ?_
    rintro e w' ⟨rfl, rfl⟩
    go_wp2
    go_ret2
    exact ⟨rfl, bel2 _ _ _⟩

end Go.Proofs.Ytlolippocnngcac.cents
