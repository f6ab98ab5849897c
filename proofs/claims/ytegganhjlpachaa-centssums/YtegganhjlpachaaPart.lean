/- What cents.Part and the document's answer to it give back. -/
import Derived.Test.YtegganhjlpachaaCents
namespace Go.Proofs.Ytegganhjlpachaa.cents
open Go.RowKit

theorem row_one (w : World) (z : Int) (t : TypeId) : Row (w.alloc (.cells #[.int .i64 z] t)) (some ⟨w.heap.size, 0, none⟩) 1 [z] := by
  refine ⟨rfl, .inr ⟨_, _, rfl, fun i hi => ?_⟩⟩
  obtain rfl : i = 0 := by omega
  simp

theorem okAll_yes {lo hi z : Int} (h1 : lo ≤ z) (h2 : z ≤ hi) : okAll lo hi [z] = true := by simp [okAll, h1, h2]
theorem okAll_not {lo hi z : Int} (h : z < lo ∨ hi < z) : okAll lo hi [z] = false := by simp [okAll]; omega

/-- One number alone, laid in a new block: it lies within the bounds. -/
theorem within_one_yes (lo hi z : Int) (w : World) (b : Nat) (hb : b = w.heap.size) (h1 : lo ≤ z) (h2 : z ≤ hi) :
    Calls Try.prog 20 #[.int .i64 lo, .int .i64 hi, .slice (some ⟨b, 0, none⟩) 1 1] (w.alloc (.cells #[.int .i64 z] 3)) fun e w' => e = .returned (.bool true) ∧ w' = w.alloc (.cells #[.int .i64 z] 3) := by
  have h := within_any lo hi _ 1 1 [z] _ (row_one w z 3) (by decide)
  rw [okAll_yes h1 h2] at h
  rw [hb]
  exact h

theorem within_one_no (lo hi z : Int) (w : World) (b : Nat) (hb : b = w.heap.size) (h0 : z < lo ∨ hi < z) :
    Calls Try.prog 20 #[.int .i64 lo, .int .i64 hi, .slice (some ⟨b, 0, none⟩) 1 1] (w.alloc (.cells #[.int .i64 z] 3)) fun e w' => e = .returned (.bool false) ∧ w' = w.alloc (.cells #[.int .i64 z] 3) := by
  have h := within_any lo hi _ 1 1 [z] _ (row_one w z 3) (by decide)
  rw [okAll_not h0] at h
  rw [hb]
  exact h

theorem prod_bd (a b A B : Int) (h1 : 0 ≤ a) (h2 : a ≤ A) (h3 : 0 ≤ b) (h4 : b ≤ B) : 0 ≤ a * b ∧ a * b ≤ A * B :=
  ⟨Int.mul_nonneg h1 h3, Int.mul_le_mul h2 h4 h3 (by omega)⟩

theorem split_sum (a b : Int) : a * (10000 - b) = a * 10000 - a * b := by rw [Int.mul_sub]
theorem split_yes (a b : Int) (h : a * b % 10000 = 0) : a * b / 10000 + a * (10000 - b) / 10000 = a := by
  rw [split_sum]
  generalize a * b = p at *
  omega
theorem split_no (a b : Int) (h : ¬ a * b % 10000 = 0) : a * b / 10000 + a * (10000 - b) / 10000 = a - 1 := by
  rw [split_sum]
  generalize a * b = p at *
  omega

theorem bel1 (w : World) (o : Obj) : Below w.heap.size w (w.alloc o) := (Below.refl _ _).alloc (Nat.le_refl _) _
theorem bel2 (w : World) (o o' : Obj) : Below w.heap.size w ((w.alloc o).alloc o') := (bel1 w o).alloc (by simp) _

set_option maxHeartbeats 400000 in
theorem part_yes (a b : Int) (w : World) (h1 : 0 ≤ a) (h2 : a ≤ 1000000000000) (h3 : 0 ≤ b) (h4 : b ≤ 10000) :
    Calls Try.prog 12 #[.int .i64 a, .int .i64 b] w fun e w' => e = .returned (.tuple #[.int .i64 (a * b / 10000), .int .i64 0]) ∧ Below w.heap.size w w' := by
  obtain ⟨hp1, hp2⟩ := prod_bd a b _ _ h1 h2 h3 h4
  go_enter Try.func12, Try.ntmps12
  go_wp2_with fail
  refine (within_one_yes _ _ _ _ _ rfl h1 h2).mono ?_
  rintro e w' ⟨rfl, rfl⟩
  go_wp2_with fail
  refine (within_one_yes _ _ _ _ _ (by simp) h3 h4).mono ?_
  rintro e w' ⟨rfl, rfl⟩
  go_wp2
  go_ret2
  exact ⟨rfl, bel2 _ _ _⟩

set_option maxHeartbeats 400000 in
theorem part_no (a b : Int) (w : World) (h : (a < 0 ∨ 1000000000000 < a) ∨ (b < 0 ∨ 10000 < b)) :
    Calls Try.prog 12 #[.int .i64 a, .int .i64 b] w fun e w' => e = .returned (.tuple #[.int .i64 0, .int .i64 2]) ∧ Below w.heap.size w w' := by
  by_cases h0 : a < 0 ∨ 1000000000000 < a
  · clear h
    go_enter Try.func12, Try.ntmps12
    go_wp2_with fail
    refine (within_one_no _ _ _ _ _ rfl h0).mono ?_
    rintro e w' ⟨rfl, rfl⟩
    go_wp2
    go_ret2
    exact ⟨rfl, bel1 _ _⟩
  · have h5 : b < 0 ∨ 10000 < b := by omega
    have h1 : 0 ≤ a := by omega
    have h2 : a ≤ 1000000000000 := by omega
    clear h h0
    go_enter Try.func12, Try.ntmps12
    go_wp2_with fail
    refine (within_one_yes _ _ _ _ _ rfl h1 h2).mono ?_
    rintro e w' ⟨rfl, rfl⟩
    go_wp2_with fail
    refine (within_one_no _ _ _ _ _ (by simp) h5).mono ?_
    rintro e w' ⟨rfl, rfl⟩
    go_wp2
    go_ret2
    exact ⟨rfl, bel2 _ _ _⟩

end Go.Proofs.Ytegganhjlpachaa.cents
