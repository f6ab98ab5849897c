/- What the document's answer to Inv gives back. -/
import Derived.Test.YtopbiamlmdpphabCkMoved
namespace Go.Proofs.Ytopbiamlmdpphab.check
open Go.RowKit

set_option maxHeartbeats 1000000 in
theorem undone_yes (a : Nat) (w : World) (ha : a < 10) :
    Calls Try.prog 10 #[.int .i64 (a : Int)] w fun e w' => e = .returned (.tuple #[.int .i64 ((invN a : Nat) : Int), .int .i64 0]) ∧ w' = w := by
  have HI : Hid (∀ c, c < 10 → (mulN a c = 0 ↔ c = invN a)) := inv_iff a ha
  have hm := inv_lt a ha
  have HC : Hid (∀ (q : Nat) (w : World), q < 10 → Calls Try.prog 8 #[.int .i64 (a : Int), .int .i64 (q : Int)] w fun e w' => e = .returned (.tuple #[.int .i64 ((mulN a q : Nat) : Int), .int .i64 0]) ∧ w' = w) := fun q w h2 => moved_yes a q w ha h2
  go_enter Try.func10, Try.ntmps10
  go_wp2_with fail
  refine (in_yes _ _ _ _ (by omega) (by omega)).mono ?_
  rintro e w' ⟨rfl, rfl⟩
  go_wp2_with fail
  go_loop [4] (fun v => ∃ k : Nat, k ≤ invN a ∧ v = .int .i64 (k : Int)) (fun v => 10 - (intOf v).toNat)
  case atStart => exact ⟨0, Nat.zero_le _, rfl⟩
  case round =>
    obtain ⟨k, hk, rfl⟩ := hrel
    have hk10 : (k : Int) < 10 := by omega
    have hI := HI.out k (by omega)
    have HC1 := HC.out k w' (by omega)
    generalize hm' : invN a = m at *
    generalize mulN a k = x at *
    have HI2 : Hid (x = 0 ↔ k = m) := hI
    have HM : Hid (invN a = m) := hm'
    clear hI HI HC hm'
    go_wp2_with fail
    refine HC1.mono ?_
    rintro e w1 ⟨rfl, rfl⟩
    clear HC1
    by_cases h0 : x = 0
    · have e0 : (((x : Nat) : Int) == 0) = true := by simp [h0]
      have hkm : k = m := HI2.out.1 h0
      clear h0 HI2
      subst hkm
      go_wp2_with fail
      go_ret2
      exact ⟨by rw [HM.out]; rfl, rfl⟩
    · have e0 : (((x : Nat) : Int) == 0) = false := by simp; omega
      have hkm : k ≠ m := fun e => h0 (HI2.out.2 e)
      clear h0 HI2
      go_wp2_with fail
      go_round
      case rel => exact ⟨k + 1, by omega, by go_num⟩
      case measure => simp [intOf]; omega

theorem undone_no (x : Int) (w : World) (h : x < 0 ∨ 9 < x) :
    Calls Try.prog 10 #[.int .i64 x] w fun e w' => e = .returned (.tuple #[.int .i64 0, .int .i64 2]) ∧ w' = w := by
  go_enter Try.func10, Try.ntmps10
  go_wp2_with fail
  refine (in_no _ _ _ _ h).mono ?_
  rintro e w' ⟨rfl, rfl⟩
  go_wp2
  go_ret2
  exact ⟨rfl, rfl⟩

end Go.Proofs.Ytopbiamlmdpphab.check
