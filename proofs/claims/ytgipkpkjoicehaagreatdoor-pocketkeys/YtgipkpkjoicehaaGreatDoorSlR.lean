/- Slots: what the document says of them. -/
import Derived.Test.YtgipkpkjoicehaaGreatDoorSlS
import Derived.Test.YtgipkpkjoicehaaGreatDoorClIn
namespace Go.Proofs.YtgipkpkjoicehaaGreatDoor.slot
open Go.RowKit Go.Proofs.YtgipkpkjoicehaaGreatDoor.cell
set_option maxRecDepth 100000
set_option linter.unusedVariables false

/-- How many elements a slice has. -/
def lenS : Value → Nat
  | .slice _ n _ => n
  | _ => 0
theorem fits_yes (m n : Nat) (w : World) (h1 : 1 ≤ n) (h2 : n ≤ 64) (hm : m = 2 * n + 2) :
    Calls Tryz.prog 68 #[.int .i64 (m : Int), .int .i64 (n : Int)] w fun e w' => e = .returned (.bool true) ∧ w' = w := by
  have HM : Hid (∀ W, Calls Tryz.prog 77 #[.int .i64 (n : Int), .int .i64 1, .int .i64 64] W fun e w' => e = .returned (.bool true) ∧ w' = W) := fun W => in_yes _ _ _ W (by omega) (by omega)
  have hq : ((m : Int) == 2 * (n : Int) + 2) = true := by simp; omega
  clear hm
  go_enter Tryz.func68, Tryz.ntmps68
  go_wp2_with fail
  refine (HM.out _).mono ?_
  rintro e w1 ⟨rfl, rfl⟩
  go_wp2_with fail
  go_ret
  exact ⟨rfl, rfl⟩
theorem fits_no (m : Nat) (n : Int) (w : World) (h : n < 1 ∨ 64 < n ∨ (m : Int) ≠ 2 * n + 2) :
    Calls Tryz.prog 68 #[.int .i64 (m : Int), .int .i64 n] w fun e w' => e = .returned (.bool false) ∧ w' = w := by
  by_cases h0 : n < 1 ∨ 64 < n
  · have HM : Hid (∀ W, Calls Tryz.prog 77 #[.int .i64 n, .int .i64 1, .int .i64 64] W fun e w' => e = .returned (.bool false) ∧ w' = W) := fun W => in_no _ _ _ W h0
    clear h h0
    go_enter Tryz.func68, Tryz.ntmps68
    go_wp2_with fail
    refine (HM.out _).mono ?_
    rintro e w1 ⟨rfl, rfl⟩
    go_wp2_with fail
    go_ret
    exact ⟨rfl, rfl⟩
  · have HM : Hid (∀ W, Calls Tryz.prog 77 #[.int .i64 n, .int .i64 1, .int .i64 64] W fun e w' => e = .returned (.bool true) ∧ w' = W) := fun W => in_yes _ _ _ W (by omega) (by omega)
    have hq : ((m : Int) == 2 * n + 2) = false := by simp; omega
    have h1 : 1 ≤ n := by omega
    have h2 : n ≤ 64 := by omega
    clear h h0
    go_enter Tryz.func68, Tryz.ntmps68
    go_wp2_with fail
    refine (HM.out _).mono ?_
    rintro e w1 ⟨rfl, rfl⟩
    go_wp2_with fail
    go_ret
    exact ⟨rfl, rfl⟩

theorem follows_any (a b : Int) (w : World) (ha : good a = true) (hb : good b = true) :
    Calls Tryz.prog 102 #[.int .u32 a, .int .u32 b] w fun e w' => e = .returned (.bool (decide (behind a = b))) ∧ w' = w := by
  rw [good_iff] at ha hb
  have ha3 : a = 1 ∨ a = 2 ∨ a = 3 := by omega
  have hb3 : b = 1 ∨ b = 2 ∨ b = 3 := by omega
  clear ha hb
  rcases ha3 with rfl | rfl | rfl <;> rcases hb3 with rfl | rfl | rfl
  all_goals
    go_enter Tryz.func102, Tryz.ntmps102
    go_wp2
    go_ret
    exact ⟨rfl, rfl⟩

/-- A number below 1, a mark, or one above. -/
theorem three (a : Int) : a < 1 ∨ (1 ≤ a ∧ a ≤ 3) ∨ (1 ≤ a ∧ 3 < a) := by omega
theorem bad_low {a : Int} (h : a < 1) : good a = false := by simp [good]; omega
theorem bad_high {a : Int} (h : 3 < a) : good a = false := by simp [good]; omega
set_option maxHeartbeats 1000000 in
theorem counts_any (a : Option Addr) (m c1 n : Nat) (xs : List Int) (w : World) (h : RowU w a m xs) (h1 : 1 ≤ n) (h2 : n ≤ 64) (hm : m = 2 * n + 2) :
    Calls Tryz.prog 69 #[.slice a m c1, .int .i64 (n : Int)] w fun e w' => e = .returned (.int .i64 ((which xs n : Nat) : Int)) ∧ w' = w := by
  obtain ⟨b, o, rfl, hb, hc⟩ := h.at (by omega)
  have c0 : w.cell? ⟨b, o, none⟩ = some (.int .u32 (xs.getD 0 0)) := hc 0 (by omega)
  have cn := hc (n + 1) (by omega)
  have hn1 : n + 1 < m := by omega
  have hm0 : 0 < m := by omega
  have HW : Hid (which xs n = cnt (xs.getD 0 0) (xs.getD (n + 1) 0)) := rfl
  clear hc hb h hm
  generalize which xs n = wh at *
  generalize xs.getD 0 0 = x at *
  generalize xs.getD (n + 1) 0 = y at *
  rcases three x with hx | ⟨hx1, hx2⟩ | ⟨hx1, hx2⟩ <;> rcases three y with hy | ⟨hy1, hy2⟩ | ⟨hy1, hy2⟩
  case inr.inl.inr.inl =>
    have gx : good x = true := by simp [good]; omega
    have gy : good y = true := by simp [good]; omega
    have HF : Hid (∀ W, Calls Tryz.prog 102 #[.int .u32 x, .int .u32 y] W fun e w' => e = .returned (.bool (decide (behind x = y))) ∧ w' = W) := fun W => follows_any x y W gx gy
    by_cases hbe : behind x = y
    · have HR : Hid (wh = 1) := by show _ = _; rw [HW.out]; simp [cnt, gx, gy, hbe]
      rw [decide_eq_true hbe] at HF
      clear gx gy hbe HW
      go_enter Tryz.func69, Tryz.ntmps69
      go_wp2_with fail
      refine (HF.out _).mono ?_
      rintro e w1 ⟨rfl, rfl⟩
      go_wp2_with fail
      go_ret
      exact ⟨by rw [HR.out]; rfl, rfl⟩
    · have HR : Hid (wh = 0) := by show _ = _; rw [HW.out]; simp [cnt, gx, gy, hbe]
      rw [decide_eq_false hbe] at HF
      clear gx gy hbe HW
      go_enter Tryz.func69, Tryz.ntmps69
      go_wp2_with fail
      refine (HF.out _).mono ?_
      rintro e w1 ⟨rfl, rfl⟩
      go_wp2_with fail
      go_ret
      exact ⟨by rw [HR.out]; rfl, rfl⟩
  all_goals
    have HR : Hid (wh = cnt x y) := HW.out
    have HK : Hid (cnt x y = if good x then 0 else if good y then 1 else 2) := by
      show _ = _
      cases gx : good x <;> cases gy : good y <;> simp [cnt, gx, gy]
      all_goals (rw [good_iff] at gx gy; omega)
    clear HW
    first
      | have GX : Hid (good x = false) := (by show good x = false; simp [good]; omega)
      | have GX : Hid (good x = true) := (by show good x = true; simp [good]; omega)
    first
      | have GY : Hid (good y = false) := (by show good y = false; simp [good]; omega)
      | have GY : Hid (good y = true) := (by show good y = true; simp [good]; omega)
    try (have dx : decide (x ≤ 3) = false := by simp; omega)
    try (have dy : decide (y ≤ 3) = false := by simp; omega)
    go_enter Tryz.func69, Tryz.ntmps69
    go_wp2_with fail
    go_ret
    refine ⟨?_, rfl⟩
    rw [HR.out, HK.out, GX.out, GY.out]
    rfl

end Go.Proofs.YtgipkpkjoicehaaGreatDoor.slot
