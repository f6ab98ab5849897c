/- What check.Mul and check.Inv give back. -/
import Derived.Test.YtopbiamlmdpphabCkMul
namespace Go.Proofs.Ytopbiamlmdpphab.check
open Go.RowKit

set_option maxHeartbeats 400000 in
theorem mul_yes (a b : Nat) (w : World) (ha : a < 10) (hb : b < 10) :
    Calls Try.prog 7 #[.int .i64 (a : Int), .int .i64 (b : Int)] w fun e w' => e = .returned (.tuple #[.int .i64 ((mulN a b : Nat) : Int), .int .i64 0]) ∧ w' = w := by
  have ht := then_any a b w ha hb
  have a0 : (0 : Int) ≤ a := by omega
  have a1 : (a : Int) < 10 := by omega
  have b0 : (0 : Int) ≤ b := by omega
  have b1 : (b : Int) < 10 := by omega
  generalize (a : Int) = x at *
  generalize (b : Int) = y at *
  generalize ((mulN a b : Nat) : Int) = m at *
  go_enter Try.func7, Try.ntmps7
  go_wp2_with fail
  refine (isMotion_yes _ _ a0 a1).mono ?_
  rintro e w' ⟨rfl, rfl⟩
  go_wp2_with fail
  refine (isMotion_yes _ _ b0 b1).mono ?_
  rintro e w' ⟨rfl, rfl⟩
  go_wp2_with fail
  refine ht.mono ?_
  rintro e w' ⟨rfl, rfl⟩
  go_wp2
  go_ret2
  exact ⟨rfl, rfl⟩

set_option maxHeartbeats 400000 in
theorem mul_no (x y : Int) (w : World) (h : (x < 0 ∨ 10 ≤ x) ∨ (y < 0 ∨ 10 ≤ y)) :
    Calls Try.prog 7 #[.int .i64 x, .int .i64 y] w fun e w' => e = .returned (.tuple #[.int .i64 0, .int .i64 2]) ∧ w' = w := by
  by_cases h0 : x < 0 ∨ 10 ≤ x
  · clear h
    go_enter Try.func7, Try.ntmps7
    go_wp2_with fail
    refine (isMotion_no _ _ h0).mono ?_
    rintro e w' ⟨rfl, rfl⟩
    go_wp2
    go_ret2
    exact ⟨rfl, rfl⟩
  · have h5 : y < 0 ∨ 10 ≤ y := by omega
    have a0 : 0 ≤ x := by omega
    have a1 : x < 10 := by omega
    clear h h0
    go_enter Try.func7, Try.ntmps7
    go_wp2_with fail
    refine (isMotion_yes _ _ a0 a1).mono ?_
    rintro e w' ⟨rfl, rfl⟩
    go_wp2_with fail
    refine (isMotion_no _ _ h5).mono ?_
    rintro e w' ⟨rfl, rfl⟩
    go_wp2
    go_ret2
    exact ⟨rfl, rfl⟩

theorem invF_yes (a : Nat) (w : World) (ha : a < 10) :
    Calls Try.prog 9 #[.int .i64 (a : Int)] w fun e w' => e = .returned (.tuple #[.int .i64 ((invN a : Nat) : Int), .int .i64 0]) ∧ w' = w := by
  have ht := undo_any a w ha
  have a0 : (0 : Int) ≤ a := by omega
  have a1 : (a : Int) < 10 := by omega
  generalize (a : Int) = x at *
  generalize ((invN a : Nat) : Int) = m at *
  go_enter Try.func9, Try.ntmps9
  go_wp2_with fail
  refine (isMotion_yes _ _ a0 a1).mono ?_
  rintro e w' ⟨rfl, rfl⟩
  go_wp2_with fail
  refine ht.mono ?_
  rintro e w' ⟨rfl, rfl⟩
  go_wp2
  go_ret2
  exact ⟨rfl, rfl⟩
theorem invF_no (x : Int) (w : World) (h : x < 0 ∨ 10 ≤ x) :
    Calls Try.prog 9 #[.int .i64 x] w fun e w' => e = .returned (.tuple #[.int .i64 0, .int .i64 2]) ∧ w' = w := by
  go_enter Try.func9, Try.ntmps9
  go_wp2_with fail
  refine (isMotion_no _ _ h).mono ?_
  rintro e w' ⟨rfl, rfl⟩
  go_wp2
  go_ret2
  exact ⟨rfl, rfl⟩

end Go.Proofs.Ytopbiamlmdpphab.check
