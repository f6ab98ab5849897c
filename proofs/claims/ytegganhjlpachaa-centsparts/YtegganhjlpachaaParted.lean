/- What the document's answer to Part gives back. -/
import Derived.Test.YtegganhjlpachaaPart
import Derived.Test.YtegganhjlpachaaIn
namespace Go.Proofs.Ytegganhjlpachaa.cents
open Go.RowKit

theorem part_split (a b : Int) : a / 10000 * b + a % 10000 * b / 10000 = a * b / 10000 := by
  have e : a * b = a / 10000 * b * 10000 + a % 10000 * b := by
    have h := Int.emod_add_mul_ediv a 10000
    calc a * b = (a % 10000 + 10000 * (a / 10000)) * b := by rw [h]
      _ = a / 10000 * b * 10000 + a % 10000 * b := by rw [Int.add_mul]; rw [Int.mul_assoc, Int.mul_comm 10000, Int.add_comm]
  rw [e]
  generalize a / 10000 * b = x
  generalize a % 10000 * b = y
  omega

set_option maxHeartbeats 400000 in
theorem parted_yes (a b : Int) (w : World) (h1 : 0 ≤ a) (h2 : a ≤ 1000000000000) (h3 : 0 ≤ b) (h4 : b ≤ 10000) :
    Calls Try.prog 13 #[.int .i64 a, .int .i64 b] w fun e w' => e = .returned (.tuple #[.int .i64 (a * b / 10000), .int .i64 0]) ∧ w' = w := by
  obtain ⟨p1, p2⟩ := prod_bd (a / 10000) b 100000000 10000 (by omega) (by omega) h3 h4
  obtain ⟨p3, p4⟩ := prod_bd (a % 10000) b 10000 10000 (by omega) (by omega) h3 h4
  rw [← part_split]
  go_enter Try.func13, Try.ntmps13
  go_wp2_with fail
  refine (in_yes _ _ _ _ h1 h2).mono ?_
  rintro e w' ⟨rfl, rfl⟩
  go_wp2_with fail
  refine (in_yes _ _ _ _ h3 h4).mono ?_
  rintro e w' ⟨rfl, rfl⟩
  go_wp2
  go_ret2
  exact ⟨rfl, rfl⟩

set_option maxHeartbeats 400000 in
theorem parted_no (a b : Int) (w : World) (h : (a < 0 ∨ 1000000000000 < a) ∨ (b < 0 ∨ 10000 < b)) :
    Calls Try.prog 13 #[.int .i64 a, .int .i64 b] w fun e w' => e = .returned (.tuple #[.int .i64 0, .int .i64 2]) ∧ w' = w := by
  by_cases h0 : a < 0 ∨ 1000000000000 < a
  · clear h
    go_enter Try.func13, Try.ntmps13
    go_wp2_with fail
    refine (in_no _ _ _ _ h0).mono ?_
    rintro e w' ⟨rfl, rfl⟩
    go_wp2
    go_ret2
    exact ⟨rfl, rfl⟩
  · have h5 : b < 0 ∨ 10000 < b := by omega
    have h1 : 0 ≤ a := by omega
    have h2 : a ≤ 1000000000000 := by omega
    clear h h0
    go_enter Try.func13, Try.ntmps13
    go_wp2_with fail
    refine (in_yes _ _ _ _ h1 h2).mono ?_
    rintro e w' ⟨rfl, rfl⟩
    go_wp2_with fail
    refine (in_no _ _ _ _ h5).mono ?_
    rintro e w' ⟨rfl, rfl⟩
    go_wp2
    go_ret2
    exact ⟨rfl, rfl⟩

end Go.Proofs.Ytegganhjlpachaa.cents
