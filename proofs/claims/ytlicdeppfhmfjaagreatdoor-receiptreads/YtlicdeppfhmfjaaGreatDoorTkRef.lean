/- The document's answer: why a token may not be, and its body. -/
import Derived.Test.YtlicdeppfhmfjaaGreatDoorTkFlN
import Derived.Test.YtlicdeppfhmfjaaGreatDoorBlk
import Derived.Test.YtlicdeppfhmfjaaGreatDoorTkIn
import Derived.Deep.RegionWith
namespace Go.Proofs.YtlicdeppfhmfjaaGreatDoor.token
open Go.RowKit
set_option linter.unusedSimpArgs false
set_option linter.unusedVariables false

theorem in_any (n lo hi : Int) (w : World) : Calls Tryz.prog 36 #[.int .i64 n, .int .i64 lo, .int .i64 hi] w fun e w' => e = .returned (.bool (hasI lo hi n)) ∧ w' = w := by
  by_cases h : lo ≤ n ∧ n ≤ hi
  · rw [hasI_yes.2 h]; exact in_yes n lo hi w h.1 h.2
  · rw [show hasI lo hi n = false by rw [← Bool.not_eq_true]; exact fun h0 => h (hasI_yes.1 h0)]; exact in_no n lo hi w (by omega)

/-- What is asked of the amount. -/
theorem amt_0 (a : Int) : hasI (amLo 0) (amHi 0) a = hasI 1 2097151 a := rfl
theorem amt_2 (a : Int) : hasI (amLo 2) (amHi 2) a = hasI 1 15 a := rfl
theorem amt_z (a : Int) : hasI 0 0 a = (a == 0) := by
  unfold hasI
  by_cases h : a = 0
  · subst h; rfl
  · rw [beq_eq_false_iff_ne.2 h, ← Bool.not_eq_true, ← hasI]
    exact fun h0 => h (by have := hasI_yes.1 h0; omega)

set_option maxHeartbeats 1000000 in
theorem fault_any (c i a t : Int) (w : World) :
    Calls Tryz.prog 71 #[.agg #[.int .i64 c, .int .i64 i, .int .i64 a, .int .i64 t]] w fun e w' => e = .returned (.int .i64 (flawT c i a t)) ∧ Below w.heap.size w w' := by
  have HB : Hid (Below w.heap.size w (w.alloc (.cells #[.int .i64 c, .int .i64 i, .int .i64 a, .int .i64 t] 51))) := (Below.refl _ _).alloc (Nat.le_refl _) _
  have HC : Hid (∀ W, Calls Tryz.prog 36 #[.int .i64 c, .int .i64 0, .int .i64 3] W fun e w' => e = .returned (.bool (hasI 0 3 c)) ∧ w' = W) := fun W => in_any _ _ _ W
  have HI : Hid (∀ W, Calls Tryz.prog 36 #[.int .i64 i, .int .i64 1, .int .i64 1048575] W fun e w' => e = .returned (.bool (hasI 1 1048575 i)) ∧ w' = W) := fun W => in_any _ _ _ W
  have HU : Hid (∀ W, Calls Tryz.prog 36 #[.int .i64 t, .int .i64 0, .int .i64 65535] W fun e w' => e = .returned (.bool (hasI 0 65535 t)) ∧ w' = W) := fun W => in_any _ _ _ W
  have H1 : Hid (∀ W, Calls Tryz.prog 36 #[.int .i64 a, .int .i64 1, .int .i64 2097151] W fun e w' => e = .returned (.bool (hasI 1 2097151 a)) ∧ w' = W) := fun W => in_any _ _ _ W
  have H2 : Hid (∀ W, Calls Tryz.prog 36 #[.int .i64 a, .int .i64 1, .int .i64 15] W fun e w' => e = .returned (.bool (hasI 1 15 a)) ∧ w' = W) := fun W => in_any _ _ _ W
  by_cases h : c < 0 ∨ 3 < c
  · rw [flawT_class h]
    have hc : hasI 0 3 c = false := by rw [← Bool.not_eq_true]; exact fun h0 => by have := hasI_yes.1 h0; omega
    rw [hc] at HC
    clear h hc
    go_enter Tryz.func71, Tryz.ntmps71
    go_wp2_with (go_at_call 36; refine (HC.out _).mono ?_; rintro e w' ⟨rfl, rfl⟩)
    go_ret
    exact ⟨rfl, HB.out⟩
  · have hc : hasI 0 3 c = true := hasI_yes.2 (by omega)
    rw [hc] at HC
    rw [flawT_in h]
    have HZ : Hid ((a == 0) = hasI 0 0 a) := (amt_z a).symm
    have hne : (a != 0) = !(hasI 0 0 a) := by rw [amt_z]; rfl
    generalize hasI 1 1048575 i = bi at *
    generalize hasI 0 65535 t = bt at *
    rcases (by omega : c = 0 ∨ c = 1 ∨ c = 2 ∨ c = 3) with rfl | rfl | rfl | rfl
    · rw [amt_0]
      clear H2 HZ hne h hc
      generalize hasI 1 2097151 a = ba at *
      cases bi <;> cases bt <;> cases ba
      all_goals
        go_enter Tryz.func71, Tryz.ntmps71
        go_wp2_with (first
          | (go_at_call_of 36 (Value.int .i64 3); refine (HC.out _).mono ?_; rintro e w' ⟨rfl, rfl⟩)
          | (go_at_call_of 36 (Value.int .i64 1048575); refine (HI.out _).mono ?_; rintro e w' ⟨rfl, rfl⟩)
          | (go_at_call_of 36 (Value.int .i64 65535); refine (HU.out _).mono ?_; rintro e w' ⟨rfl, rfl⟩)
          | (go_at_call_of 36 (Value.int .i64 2097151); refine (H1.out _).mono ?_; rintro e w' ⟨rfl, rfl⟩))
        go_ret
        exact ⟨rfl, HB.out⟩
    · rw [show hasI (amLo 1) (amHi 1) a = hasI 0 0 a from rfl]
      clear H1 H2 h hc
      generalize hasI 0 0 a = ba at *
      cases bi <;> cases bt <;> cases ba
      all_goals
        go_enter Tryz.func71, Tryz.ntmps71
        go_wp2_with (first
          | (go_at_call_of 36 (Value.int .i64 3); refine (HC.out _).mono ?_; rintro e w' ⟨rfl, rfl⟩)
          | (go_at_call_of 36 (Value.int .i64 1048575); refine (HI.out _).mono ?_; rintro e w' ⟨rfl, rfl⟩)
          | (go_at_call_of 36 (Value.int .i64 65535); refine (HU.out _).mono ?_; rintro e w' ⟨rfl, rfl⟩))
        go_ret
        exact ⟨rfl, HB.out⟩
    · rw [amt_2]
      clear H1 HZ hne h hc
      generalize hasI 1 15 a = ba at *
      cases bi <;> cases bt <;> cases ba
      all_goals
        go_enter Tryz.func71, Tryz.ntmps71
        go_wp2_with (first
          | (go_at_call_of 36 (Value.int .i64 3); refine (HC.out _).mono ?_; rintro e w' ⟨rfl, rfl⟩)
          | (go_at_call_of 36 (Value.int .i64 1048575); refine (HI.out _).mono ?_; rintro e w' ⟨rfl, rfl⟩)
          | (go_at_call_of 36 (Value.int .i64 65535); refine (HU.out _).mono ?_; rintro e w' ⟨rfl, rfl⟩)
          | (go_at_call_of 36 (Value.int .i64 15); refine (H2.out _).mono ?_; rintro e w' ⟨rfl, rfl⟩))
        go_ret
        exact ⟨rfl, HB.out⟩
    · rw [show hasI (amLo 3) (amHi 3) a = hasI 0 0 a from rfl]
      clear H1 H2 h hc
      generalize hasI 0 0 a = ba at *
      cases bi <;> cases bt <;> cases ba
      all_goals
        go_enter Tryz.func71, Tryz.ntmps71
        go_wp2_with (first
          | (go_at_call_of 36 (Value.int .i64 3); refine (HC.out _).mono ?_; rintro e w' ⟨rfl, rfl⟩)
          | (go_at_call_of 36 (Value.int .i64 1048575); refine (HI.out _).mono ?_; rintro e w' ⟨rfl, rfl⟩)
          | (go_at_call_of 36 (Value.int .i64 65535); refine (HU.out _).mono ?_; rintro e w' ⟨rfl, rfl⟩))
        go_ret
        exact ⟨rfl, HB.out⟩

end Go.Proofs.YtlicdeppfhmfjaaGreatDoor.token
