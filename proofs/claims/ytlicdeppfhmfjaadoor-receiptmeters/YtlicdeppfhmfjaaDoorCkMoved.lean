/- What the document's answers to Mul and Inv give back. -/
import Derived.Test.YtlicdeppfhmfjaaDoorChk
import Derived.WalkKit
import Derived.Below
namespace Go.Proofs.YtlicdeppfhmfjaaDoor.check
open Go.RowKit

theorem in_yes (n lo hi : Int) (w : World) (h1 : lo ≤ n) (h2 : n ≤ hi) :
    Calls Tryd.prog 16 #[.int .i64 n, .int .i64 lo, .int .i64 hi] w fun e w' => e = .returned (.bool true) ∧ w' = w := by
  go_enter Tryd.func16, Tryd.ntmps16
  go_wp2
  go_ret
  exact ⟨rfl, rfl⟩
theorem in_no (n lo hi : Int) (w : World) (h : n < lo ∨ hi < n) :
    Calls Tryd.prog 16 #[.int .i64 n, .int .i64 lo, .int .i64 hi] w fun e w' => e = .returned (.bool false) ∧ w' = w := by
  by_cases h0 : n < lo
  · clear h
    go_enter Tryd.func16, Tryd.ntmps16
    go_wp2
    go_ret
    exact ⟨rfl, rfl⟩
  · have h1 : lo ≤ n := by omega
    have h2 : decide (n ≤ hi) = false := by simp; omega
    clear h h0
    go_enter Tryd.func16, Tryd.ntmps16
    go_wp2
    go_ret
    exact ⟨rfl, rfl⟩

/-- Where a corner comes to lie. -/
def cornerN (a x : Nat) : Nat := if a < 5 then (x + a) % 5 else (a - x) % 5
theorem cornerN_lt (a x : Nat) : cornerN a x < 5 := by unfold cornerN; split <;> omega
theorem corner_iff : ∀ a, a < 10 → ∀ b, b < 10 → ∀ c, c < 10 → ((cornerN c 0 = cornerN a (cornerN b 0) ∧ cornerN c 1 = cornerN a (cornerN b 1)) ↔ c = mulN a b) := by decide +kernel
theorem inv_iff : ∀ a, a < 10 → ∀ c, c < 10 → (mulN a c = 0 ↔ c = invN a) := by decide +kernel

theorem corner_any (a x : Nat) (w : World) (ha : a < 10) (hx : x < 5) :
    Calls Tryd.prog 95 #[.int .i64 (a : Int), .int .i64 (x : Int)] w fun e w' => e = .returned (.int .i64 ((cornerN a x : Nat) : Int)) ∧ w' = w := by
  by_cases h : a < 5
  · have e : ((cornerN a x : Nat) : Int) = ((x : Int) + (a : Int)) % 5 := by unfold cornerN; rw [if_pos h]; omega
    rw [e]
    have h0 : (0 : Int) ≤ a := by omega
    have h1 : (a : Int) < 5 := by omega
    have h2 : (0 : Int) ≤ x := by omega
    have h3 : (x : Int) < 5 := by omega
    clear e h ha hx
    generalize (a : Int) = p at *
    generalize (x : Int) = q at *
    go_enter Tryd.func95, Tryd.ntmps95
    go_wp2
    go_ret
    exact ⟨rfl, rfl⟩
  · have e : ((cornerN a x : Nat) : Int) = ((a : Int) - (x : Int)) % 5 := by unfold cornerN; rw [if_neg h]; omega
    rw [e]
    have h0 : (5 : Int) ≤ a := by omega
    have h1 : (a : Int) < 10 := by omega
    have h2 : (0 : Int) ≤ x := by omega
    have h3 : (x : Int) < 5 := by omega
    clear e h ha hx
    generalize (a : Int) = p at *
    generalize (x : Int) = q at *
    go_enter Tryd.func95, Tryd.ntmps95
    go_wp2
    go_ret
    exact ⟨rfl, rfl⟩

theorem cast0 : ((0 : Nat) : Int) = 0 := rfl
theorem cast1 : ((1 : Nat) : Int) = 1 := rfl

set_option maxHeartbeats 1000000 in
theorem moved_yes (a b : Nat) (w : World) (ha : a < 10) (hb : b < 10) :
    Calls Tryd.prog 67 #[.int .i64 (a : Int), .int .i64 (b : Int)] w fun e w' => e = .returned (.tuple #[.int .i64 ((mulN a b : Nat) : Int), .int .i64 0]) ∧ w' = w := by
  have HI : Hid (∀ c, c < 10 → ((cornerN c 0 = cornerN a (cornerN b 0) ∧ cornerN c 1 = cornerN a (cornerN b 1)) ↔ c = mulN a b)) := corner_iff a ha b hb
  have hm := mul_lt a ha b hb
  have HC : Hid (∀ (p q : Nat) (w : World), p < 10 → q < 5 → Calls Tryd.prog 95 #[.int .i64 (p : Int), .int .i64 (q : Int)] w fun e w' => e = .returned (.int .i64 ((cornerN p q : Nat) : Int)) ∧ w' = w) := fun p q w h1 h2 => corner_any p q w h1 h2
  go_enter Tryd.func67, Tryd.ntmps67
  go_wp2_with fail
  refine (in_yes _ _ _ _ (by omega) (by omega)).mono ?_
  rintro e w' ⟨rfl, rfl⟩
  go_wp2_with fail
  refine (in_yes _ _ _ _ (by omega) (by omega)).mono ?_
  rintro e w' ⟨rfl, rfl⟩
  go_wp2_with fail
  go_loop [6] (fun v => ∃ k : Nat, k ≤ mulN a b ∧ v = .int .i64 (k : Int)) (fun v => 10 - (intOf v).toNat)
  case atStart => exact ⟨0, Nat.zero_le _, rfl⟩
  case round =>
    obtain ⟨k, hk, rfl⟩ := hrel
    have hk10 : (k : Int) < 10 := by omega
    have hI := HI.out k (by omega)
    have HC1 := HC.out k 0 w' (by omega) (by omega)
    rw [cast0] at HC1
    have HC2 := HC.out b 0 w' hb (by omega)
    rw [cast0] at HC2
    have HC3 := HC.out a (cornerN b 0) w' ha (cornerN_lt _ _)
    have HC4 := HC.out k 1 w' (by omega) (by omega)
    rw [cast1] at HC4
    have HC5 := HC.out b 1 w' hb (by omega)
    rw [cast1] at HC5
    have HC6 := HC.out a (cornerN b 1) w' ha (cornerN_lt _ _)
    generalize hm' : mulN a b = m at *
    generalize cornerN k 0 = k0 at *
    generalize cornerN a (cornerN b 0) = x0 at *
    generalize cornerN b 0 = b0 at *
    generalize cornerN k 1 = k1 at *
    generalize cornerN a (cornerN b 1) = x1 at *
    generalize cornerN b 1 = b1 at *
    have HI2 : Hid ((k0 = x0 ∧ k1 = x1) ↔ k = m) := hI
    have HM : Hid (mulN a b = m) := hm'
    clear hI HI HC hm'
    go_wp2_with fail
    refine HC1.mono ?_
    rintro e w1 ⟨rfl, rfl⟩
    go_wp2_with fail
    refine HC2.mono ?_
    rintro e w1 ⟨rfl, rfl⟩
    go_wp2_with fail
    refine HC3.mono ?_
    rintro e w1 ⟨rfl, rfl⟩
    clear HC1 HC2 HC3
    by_cases h0 : k0 = x0
    · have e0 : (((k0 : Nat) : Int) == ((x0 : Nat) : Int)) = true := by simp [h0]
      go_wp2_with fail
      refine HC4.mono ?_
      rintro e w1 ⟨rfl, rfl⟩
      go_wp2_with fail
      refine HC5.mono ?_
      rintro e w1 ⟨rfl, rfl⟩
      go_wp2_with fail
      refine HC6.mono ?_
      rintro e w1 ⟨rfl, rfl⟩
      clear HC4 HC5 HC6
      by_cases h1 : k1 = x1
      · have e1 : (((k1 : Nat) : Int) == ((x1 : Nat) : Int)) = true := by simp [h1]
        have hkm : k = m := HI2.out.1 ⟨h0, h1⟩
        clear h0 h1 HI2
        subst hkm
        go_wp2_with fail
        go_ret2
        exact ⟨by rw [HM.out]; rfl, rfl⟩
      · have e1 : (((k1 : Nat) : Int) == ((x1 : Nat) : Int)) = false := by simp; omega
        have hkm : k ≠ m := fun e => h1 (HI2.out.2 e).2
        clear h0 h1 HI2
        go_wp2_with fail
        go_round
        case rel => exact ⟨k + 1, by omega, by go_num⟩
        case measure => simp [intOf]; omega
    · have e0 : (((k0 : Nat) : Int) == ((x0 : Nat) : Int)) = false := by simp; omega
      have hkm : k ≠ m := fun e => h0 (HI2.out.2 e).1
      clear h0 HI2 HC4 HC5 HC6
      go_wp2_with fail
      go_round
      case rel => exact ⟨k + 1, by omega, by go_num⟩
      case measure => simp [intOf]; omega

set_option maxHeartbeats 400000 in
theorem moved_no (x y : Int) (w : World) (h : (x < 0 ∨ 9 < x) ∨ (y < 0 ∨ 9 < y)) :
    Calls Tryd.prog 67 #[.int .i64 x, .int .i64 y] w fun e w' => e = .returned (.tuple #[.int .i64 0, .int .i64 2]) ∧ w' = w := by
  by_cases h0 : x < 0 ∨ 9 < x
  · clear h
    go_enter Tryd.func67, Tryd.ntmps67
    go_wp2_with fail
    refine (in_no _ _ _ _ h0).mono ?_
    rintro e w' ⟨rfl, rfl⟩
    go_wp2
    go_ret2
    exact ⟨rfl, rfl⟩
  · have h5 : y < 0 ∨ 9 < y := by omega
    have a0 : 0 ≤ x := by omega
    have a1 : x ≤ 9 := by omega
    clear h h0
    go_enter Tryd.func67, Tryd.ntmps67
    go_wp2_with fail
    refine (in_yes _ _ _ _ a0 a1).mono ?_
    rintro e w' ⟨rfl, rfl⟩
    go_wp2_with fail
    refine (in_no _ _ _ _ h5).mono ?_
    rintro e w' ⟨rfl, rfl⟩
    go_wp2
    go_ret2
    exact ⟨rfl, rfl⟩

end Go.Proofs.YtlicdeppfhmfjaaDoor.check
