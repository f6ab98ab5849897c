/- One number alone, held against its bounds. -/
import Derived.Test.YtlolippocnngcabCents
namespace Go.Proofs.Ytlolippocnngcab.cents
open Go.RowKit

theorem row_one (w : World) (z : Int) (t : TypeId) : Row (w.alloc (.cells #[.int .i64 z] t)) (some ⟨w.heap.size, 0, none⟩) 1 [z] := by
  refine ⟨rfl, .inr ⟨_, _, rfl, fun i hi => ?_⟩⟩
  obtain rfl : i = 0 := by omega
  simp

theorem okAll_yes {lo hi z : Int} (h1 : lo ≤ z) (h2 : z ≤ hi) : okAll lo hi [z] = true := by simp [okAll, h1, h2]
theorem okAll_not {lo hi z : Int} (h : z < lo ∨ hi < z) : okAll lo hi [z] = false := by simp [okAll]; omega

/-- One number alone, laid in a new block: it lies within the bounds. -/
theorem within_one_yes (lo hi z : Int) (w : World) (b : Nat) (hb : b = w.heap.size) (h1 : lo ≤ z) (h2 : z ≤ hi) :
    Calls Try.prog 37 #[.int .i64 lo, .int .i64 hi, .slice (some ⟨b, 0, none⟩) 1 1] (w.alloc (.cells #[.int .i64 z] 3)) fun e w' => e = .returned (.bool true) ∧ w' = w.alloc (.cells #[.int .i64 z] 3) := by
  have h := within_any lo hi _ 1 1 [z] _ (row_one w z 3) (by decide)
  rw [okAll_yes h1 h2] at h
  rw [hb]
  exact h

theorem within_one_no (lo hi z : Int) (w : World) (b : Nat) (hb : b = w.heap.size) (h0 : z < lo ∨ hi < z) :
    Calls Try.prog 37 #[.int .i64 lo, .int .i64 hi, .slice (some ⟨b, 0, none⟩) 1 1] (w.alloc (.cells #[.int .i64 z] 3)) fun e w' => e = .returned (.bool false) ∧ w' = w.alloc (.cells #[.int .i64 z] 3) := by
  have h := within_any lo hi _ 1 1 [z] _ (row_one w z 3) (by decide)
  rw [okAll_not h0] at h
  rw [hb]
  exact h

theorem prod_bd (a b A B : Int) (h1 : 0 ≤ a) (h2 : a ≤ A) (h3 : 0 ≤ b) (h4 : b ≤ B) : 0 ≤ a * b ∧ a * b ≤ A * B :=
  ⟨Int.mul_nonneg h1 h3, Int.mul_le_mul h2 h4 h3 (by omega)⟩

theorem bel1 (w : World) (o : Obj) : Below w.heap.size w (w.alloc o) := (Below.refl _ _).alloc (Nat.le_refl _) _
theorem bel2 (w : World) (o o' : Obj) : Below w.heap.size w ((w.alloc o).alloc o') := (bel1 w o).alloc (by simp) _

end Go.Proofs.Ytlolippocnngcab.cents
