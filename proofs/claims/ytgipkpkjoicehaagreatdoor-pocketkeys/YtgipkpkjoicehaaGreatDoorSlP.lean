/- Slots: which one counts. -/
import Derived.Test.YtgipkpkjoicehaaGreatDoorSlN
import Derived.Test.YtgipkpkjoicehaaGreatDoorClGave
namespace Go.Proofs.YtgipkpkjoicehaaGreatDoor.slot
open Go.RowKit Go.Proofs.YtgipkpkjoicehaaGreatDoor.cell
set_option maxRecDepth 100000
set_option linter.unusedVariables false

theorem smay_yes (n : Int) (w : World) (h1 : 1 ≤ n) (h2 : n ≤ 64) :
    Calls Tryz.prog 82 #[.int .i64 n] w fun e w' => e = .returned (.bool true) ∧ w' = w := by
  go_enter Tryz.func82, Tryz.ntmps82
  go_wp2
  go_ret
  exact ⟨rfl, rfl⟩
theorem smay_no (n : Int) (w : World) (h : n < 1 ∨ 64 < n) :
    Calls Tryz.prog 82 #[.int .i64 n] w fun e w' => e = .returned (.bool false) ∧ w' = w := by
  by_cases h0 : n < 1
  · clear h
    go_enter Tryz.func82, Tryz.ntmps82
    go_wp2
    go_ret
    exact ⟨rfl, rfl⟩
  · have h1 : 1 ≤ n := by omega
    have h2 : decide (n ≤ 64) = false := by simp; omega
    clear h h0
    go_enter Tryz.func82, Tryz.ntmps82
    go_wp2
    go_ret
    exact ⟨rfl, rfl⟩
theorem sgood_any (m : Int) (w : World) :
    Calls Tryz.prog 83 #[.int .u32 m] w fun e w' => e = .returned (.bool (good m)) ∧ w' = w := by
  by_cases h0 : m < 1
  · have e1 : good m = false := by simp [good]; omega
    rw [e1]; clear e1
    go_enter Tryz.func83, Tryz.ntmps83
    go_wp2
    go_ret
    exact ⟨rfl, rfl⟩
  · have h1 : 1 ≤ m := by omega
    by_cases h3 : m ≤ 3
    · have e1 : good m = true := by simp [good]; omega
      rw [e1]; clear e1 h0
      go_enter Tryz.func83, Tryz.ntmps83
      go_wp2
      go_ret
      exact ⟨rfl, rfl⟩
    · have e1 : good m = false := by simp [good]; omega
      have h2 : decide (m ≤ 3) = false := by simp; omega
      rw [e1]; clear e1 h0 h3
      go_enter Tryz.func83, Tryz.ntmps83
      go_wp2
      go_ret
      exact ⟨rfl, rfl⟩
theorem sbehind_any (m : Int) (w : World) (h : good m = true) :
    Calls Tryz.prog 67 #[.int .u32 m] w fun e w' => e = .returned (.int .u32 (behind m)) ∧ w' = w := by
  rw [good_iff] at h
  have h3 : m = 1 ∨ m = 2 ∨ m = 3 := by omega
  clear h
  rcases h3 with rfl | rfl | rfl
  all_goals
    go_enter Tryz.func67, Tryz.ntmps67
    go_wp2
    go_ret
    exact ⟨rfl, rfl⟩

/-- Three numbers were given back; nothing was changed. -/
def Pl (w : World) (x y c : Int) (e : Ending) (w' : World) : Prop :=
  e = .returned (.tuple #[.int .i64 x, .int .i64 y, .int .i64 c]) ∧ Below w.heap.size w w'
theorem places_size (a : Option Addr) (m c1 : Nat) (n : Int) (w : World) (h : n < 1 ∨ 64 < n ∨ (m : Int) ≠ 2 * n + 2) :
    Calls Tryz.prog 52 #[.slice a m c1, .int .i64 n] w fun e w' => Pl w 0 0 1 e w' := by
  by_cases h0 : n < 1 ∨ 64 < n
  · have HM : Hid (∀ W, Calls Tryz.prog 82 #[.int .i64 n] W fun e w' => e = .returned (.bool false) ∧ w' = W) := fun W => smay_no _ W h0
    clear h h0
    go_enter Tryz.func52, Tryz.ntmps52
    go_wp2_with fail
    refine (HM.out _).mono ?_
    rintro e w1 ⟨rfl, rfl⟩
    go_wp2_with fail
    go_ret3
    exact ⟨rfl, Below.refl _ _⟩
  · have HM : Hid (∀ W, Calls Tryz.prog 82 #[.int .i64 n] W fun e w' => e = .returned (.bool true) ∧ w' = W) := fun W => smay_yes _ W (by omega) (by omega)
    have h1 : 1 ≤ n := by omega
    have h2 : n ≤ 64 := by omega
    have hne : ((m : Int) != 2 * (n + 1)) = true := by simp; omega
    clear h h0
    go_enter Tryz.func52, Tryz.ntmps52
    go_wp2_with fail
    refine (HM.out _).mono ?_
    rintro e w1 ⟨rfl, rfl⟩
    go_wp2_with fail
    go_ret3
    exact ⟨rfl, Below.refl _ _⟩

set_option maxHeartbeats 1000000 in
theorem places_any (a : Option Addr) (m c1 n : Nat) (xs : List Int) (w : World) (h : RowU w a m xs) (h1 : 1 ≤ n) (h2 : n ≤ 64) (hm : m = 2 * n + 2) :
    Calls Tryz.prog 52 #[.slice a m c1, .int .i64 (n : Int)] w fun e w' =>
      (which xs n = 0 → Pl w 0 ((n : Int) + 1) 0 e w') ∧ (which xs n = 1 → Pl w ((n : Int) + 1) 0 0 e w') ∧ (which xs n = 2 → Pl w 0 0 17 e w') := by
  have HM : Hid (∀ W, Calls Tryz.prog 82 #[.int .i64 (n : Int)] W fun e w' => e = .returned (.bool true) ∧ w' = W) := fun W => smay_yes _ W (by omega) (by omega)
  have hne : ((m : Int) != 2 * ((n : Int) + 1)) = false := by simp; omega
  obtain ⟨b, o, rfl, hb, hc⟩ := h.at (by omega)
  have c0 : w.cell? ⟨b, o, none⟩ = some (.int .u32 (xs.getD 0 0)) := hc 0 (by omega)
  have hm0 : 0 < m := by omega
  have cn := hc (n + 1) (by omega)
  have hn1 : n + 1 < m := by omega
  have HW : Hid (which xs n = cnt (xs.getD 0 0) (xs.getD (n + 1) 0)) := rfl
  clear hc hb h hm
  generalize which xs n = wh at *
  generalize xs.getD 0 0 = x at *
  generalize xs.getD (n + 1) 0 = y at *
  have HGX : Hid (∀ W, Calls Tryz.prog 83 #[.int .u32 x] W fun e w' => e = .returned (.bool (good x)) ∧ w' = W) := fun W => sgood_any x W
  have HGY : Hid (∀ W, Calls Tryz.prog 83 #[.int .u32 y] W fun e w' => e = .returned (.bool (good y)) ∧ w' = W) := fun W => sgood_any y W
  by_cases hx : good x = true
  · have HBX : Hid (∀ W, Calls Tryz.prog 67 #[.int .u32 x] W fun e w' => e = .returned (.int .u32 (behind x)) ∧ w' = W) := fun W => sbehind_any x W hx
    rw [hx] at HGX
    by_cases hy : behind x = y
    · have hyg : good y = true := by rw [← hy]; exact (good_behind hx).1
      have hq : (y == behind x) = true := by simp [hy]
      have HR : Hid (wh = 1) := by show _ = _; rw [HW.out]; simp [cnt, hx, hyg, hy]
      clear hx hyg hy HW
      generalize behind x = z at *
      go_enter Tryz.func52, Tryz.ntmps52
      go_wp2_with fail
      refine (HM.out _).mono ?_
      rintro e w1 ⟨rfl, rfl⟩
      go_wp2_with fail
      go_region
      all_goals go_wp2_with fail
      refine (HGX.out _).mono ?_
      rintro e w2 ⟨rfl, rfl⟩
      go_wp2_with fail
      refine (HGX.out _).mono ?_
      rintro e w2 ⟨rfl, rfl⟩
      go_wp2_with fail
      refine (HBX.out _).mono ?_
      rintro e w2 ⟨rfl, rfl⟩
      go_wp2_with fail
      go_ret3
      refine ⟨fun h => ?_, fun _ => ⟨rfl, (Below.refl _ _).drew⟩, fun h => ?_⟩
      all_goals (have := HR.out; omega)
    · have hq : (y == behind x) = false := by simp; exact fun h => hy h.symm
      have HR : Hid (wh = 0) := by show _ = _; rw [HW.out]; cases hyg : good y <;> simp [cnt, hx, hyg, hy]
      clear hx hy HW
      generalize behind x = z at *
      go_enter Tryz.func52, Tryz.ntmps52
      go_wp2_with fail
      refine (HM.out _).mono ?_
      rintro e w1 ⟨rfl, rfl⟩
      go_wp2_with fail
      go_region
      all_goals go_wp2_with fail
      refine (HGX.out _).mono ?_
      rintro e w2 ⟨rfl, rfl⟩
      go_wp2_with fail
      refine (HGX.out _).mono ?_
      rintro e w2 ⟨rfl, rfl⟩
      go_wp2_with fail
      refine (HBX.out _).mono ?_
      rintro e w2 ⟨rfl, rfl⟩
      go_wp2_with fail
      go_ret3
      refine ⟨fun _ => ⟨rfl, (Below.refl _ _).drew⟩, fun h => ?_, fun h => ?_⟩
      all_goals (have := HR.out; omega)
  · have hx' : good x = false := by simpa using hx
    rw [hx'] at HGX
    by_cases hy : good y = true
    · rw [hy] at HGY
      have HR : Hid (wh = 1) := by show _ = _; rw [HW.out]; simp [cnt, hx', hy]
      clear hx hx' hy HW
      go_enter Tryz.func52, Tryz.ntmps52
      go_wp2_with fail
      refine (HM.out _).mono ?_
      rintro e w1 ⟨rfl, rfl⟩
      go_wp2_with fail
      go_region
      all_goals go_wp2_with fail
      refine (HGX.out _).mono ?_
      rintro e w2 ⟨rfl, rfl⟩
      go_wp2_with fail
      refine (HGY.out _).mono ?_
      rintro e w2 ⟨rfl, rfl⟩
      go_wp2_with fail
      refine (HGX.out _).mono ?_
      rintro e w2 ⟨rfl, rfl⟩
      go_wp2_with fail
      go_ret3
      refine ⟨fun h => ?_, fun _ => ⟨rfl, (Below.refl _ _).drew⟩, fun h => ?_⟩
      all_goals (have := HR.out; omega)
    · have hy' : good y = false := by simpa using hy
      rw [hy'] at HGY
      have HR : Hid (wh = 2) := by show _ = _; rw [HW.out]; simp [cnt, hx', hy']
      clear hx hx' hy hy' HW
      go_enter Tryz.func52, Tryz.ntmps52
      go_wp2_with fail
      refine (HM.out _).mono ?_
      rintro e w1 ⟨rfl, rfl⟩
      go_wp2_with fail
      go_region
      all_goals go_wp2_with fail
      refine (HGX.out _).mono ?_
      rintro e w2 ⟨rfl, rfl⟩
      go_wp2_with fail
      refine (HGY.out _).mono ?_
      rintro e w2 ⟨rfl, rfl⟩
      go_wp2_with fail
      go_ret3
      refine ⟨fun h => ?_, fun h => ?_, fun _ => ⟨rfl, (Below.refl _ _).drew⟩⟩
      all_goals (have := HR.out; omega)

end Go.Proofs.YtgipkpkjoicehaaGreatDoor.slot
