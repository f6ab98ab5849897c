/- The motions of a pentagon: what Mul and Inv give back. -/
import Derived.Test.YtlicdeppfhmfjabDoorChk
import Derived.WalkKit
import Derived.Below
namespace Go.Proofs.YtlicdeppfhmfjabDoor.check
open Go.RowKit

theorem flips_yes (n : Int) (w : World) (h : 5 ≤ n) :
    Calls Tryd.prog 69 #[.int .i64 n] w fun e w' => e = .returned (.bool true) ∧ w' = w := by
  go_enter Tryd.func69, Tryd.ntmps69
  go_wp2
  go_ret
  exact ⟨rfl, rfl⟩
theorem flips_no (n : Int) (w : World) (h : n < 5) :
    Calls Tryd.prog 69 #[.int .i64 n] w fun e w' => e = .returned (.bool false) ∧ w' = w := by
  have h1 : decide (5 ≤ n) = false := by simp; omega
  go_enter Tryd.func69, Tryd.ntmps69
  go_wp2
  go_ret
  exact ⟨rfl, rfl⟩

theorem mul_form (a b : Nat) (ha : a < 10) (hb : b < 10) : ((mulN a b : Nat) : Int) =
    if (a : Int) < 5 then (if (b : Int) < 5 then ((a : Int) + b) % 5 else 5 + ((a : Int) + b) % 5)
    else (if (b : Int) < 5 then 5 + ((a : Int) - (b : Int)) % 5 else ((a : Int) % 5 - (b : Int) % 5 + 5) % 5) := by
  unfold mulN
  split <;> split <;> (first | omega | (rw [if_pos (by omega), if_pos (by omega)]; omega) | (rw [if_pos (by omega), if_neg (by omega)]; omega) | (rw [if_neg (by omega), if_pos (by omega)]; omega) | (rw [if_neg (by omega), if_neg (by omega)]; omega))

set_option maxHeartbeats 400000 in
theorem then_ll (x y : Int) (w : World) (x0 : 0 ≤ x) (x1 : x < 5) (y0 : 0 ≤ y) (y1 : y < 5) :
    Calls Tryd.prog 68 #[.int .i64 x, .int .i64 y] w fun e w' => e = .returned (.int .i64 ((x + y) % 5)) ∧ w' = w := by
  go_enter Tryd.func68, Tryd.ntmps68
  go_wp2
  go_ret
  exact ⟨rfl, rfl⟩
set_option maxHeartbeats 400000 in
theorem then_lh (x y : Int) (w : World) (x0 : 0 ≤ x) (x1 : x < 5) (y0 : 5 ≤ y) (y1 : y < 10) :
    Calls Tryd.prog 68 #[.int .i64 x, .int .i64 y] w fun e w' => e = .returned (.int .i64 (5 + (x + y) % 5)) ∧ w' = w := by
  go_enter Tryd.func68, Tryd.ntmps68
  go_wp2
  go_ret
  exact ⟨rfl, rfl⟩
set_option maxHeartbeats 400000 in
theorem then_hl (x y : Int) (w : World) (x0 : 5 ≤ x) (x1 : x < 10) (y0 : 0 ≤ y) (y1 : y < 5) :
    Calls Tryd.prog 68 #[.int .i64 x, .int .i64 y] w fun e w' => e = .returned (.int .i64 (5 + (x - y) % 5)) ∧ w' = w := by
  have hd : decide (5 ≤ y) = false := by simp; omega
  go_enter Tryd.func68, Tryd.ntmps68
  go_wp2
  go_ret
  exact ⟨rfl, rfl⟩
set_option maxHeartbeats 400000 in
theorem then_hh (x y : Int) (w : World) (x0 : 5 ≤ x) (x1 : x < 10) (y0 : 5 ≤ y) (y1 : y < 10) :
    Calls Tryd.prog 68 #[.int .i64 x, .int .i64 y] w fun e w' => e = .returned (.int .i64 ((x % 5 - y % 5 + 5) % 5)) ∧ w' = w := by
  go_enter Tryd.func68, Tryd.ntmps68
  go_wp2
  go_ret
  exact ⟨rfl, rfl⟩

theorem then_any (a b : Nat) (w : World) (ha : a < 10) (hb : b < 10) :
    Calls Tryd.prog 68 #[.int .i64 (a : Int), .int .i64 (b : Int)] w fun e w' => e = .returned (.int .i64 ((mulN a b : Nat) : Int)) ∧ w' = w := by
  rw [mul_form a b ha hb]
  by_cases h1 : (a : Int) < 5
  · by_cases h2 : (b : Int) < 5
    · rw [if_pos h1, if_pos h2]; exact then_ll _ _ w (by omega) h1 (by omega) h2
    · rw [if_pos h1, if_neg h2]; exact then_lh _ _ w (by omega) h1 (by omega) (by omega)
  · by_cases h2 : (b : Int) < 5
    · rw [if_neg h1, if_pos h2]; exact then_hl _ _ w (by omega) (by omega) (by omega) h2
    · rw [if_neg h1, if_neg h2]; exact then_hh _ _ w (by omega) (by omega) (by omega) (by omega)

theorem undo_any (a : Nat) (w : World) (ha : a < 10) :
    Calls Tryd.prog 46 #[.int .i64 (a : Int)] w fun e w' => e = .returned (.int .i64 ((invN a : Nat) : Int)) ∧ w' = w := by
  by_cases h : a < 5
  · have e : ((invN a : Nat) : Int) = (5 - (a : Int)) % 5 := by unfold invN; rw [if_pos h]; omega
    rw [e]
    have x0 : (0 : Int) ≤ a := by omega
    have x1 : (a : Int) < 5 := by omega
    clear e h ha
    generalize (a : Int) = x at *
    go_enter Tryd.func46, Tryd.ntmps46
    go_wp2
    go_ret
    exact ⟨rfl, rfl⟩
  · have e : ((invN a : Nat) : Int) = (a : Int) := by unfold invN; rw [if_neg h]
    rw [e]
    have x1 : 5 ≤ (a : Int) := by omega
    clear e h ha
    generalize (a : Int) = x at *
    go_enter Tryd.func46, Tryd.ntmps46
    go_wp2
    go_ret
    exact ⟨rfl, rfl⟩

end Go.Proofs.YtlicdeppfhmfjabDoor.check
