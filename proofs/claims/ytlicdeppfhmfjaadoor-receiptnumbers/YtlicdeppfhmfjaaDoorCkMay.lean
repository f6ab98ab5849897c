/- The document's answer: whether a text is one of digits. -/
import Derived.Test.YtlicdeppfhmfjaaDoorCkDgN
namespace Go.Proofs.YtlicdeppfhmfjaaDoor.check
open Go.RowKit

theorem digit_yes (z : Int) (w : World) (h1 : 48 ≤ z) (h2 : z ≤ 57) :
    Calls Tryd.prog 42 #[.int .u8 z] w fun e w' => e = .returned (.bool true) ∧ w' = w := by
  go_enter Tryd.func42, Tryd.ntmps42
  go_wp2
  go_ret
  exact ⟨rfl, rfl⟩
theorem digit_no (z : Int) (w : World) (h : z < 48 ∨ 57 < z) :
    Calls Tryd.prog 42 #[.int .u8 z] w fun e w' => e = .returned (.bool false) ∧ w' = w := by
  by_cases h0 : z < 48
  · clear h
    go_enter Tryd.func42, Tryd.ntmps42
    go_wp2
    go_ret
    exact ⟨rfl, rfl⟩
  · have h1 : 48 ≤ z := by omega
    have h2 : decide (z ≤ 57) = false := by simp; omega
    clear h h0
    go_enter Tryd.func42, Tryd.ntmps42
    go_wp2
    go_ret
    exact ⟨rfl, rfl⟩

set_option maxHeartbeats 1000000 in
theorem may_any (s : ByteArray) (w : World) :
    Calls Tryd.prog 23 #[.string s] w fun e w' => e = .returned (.int .i64 (flawR s.data.toList)) ∧ w' = w := by
  have ln := len_eq s
  by_cases h0 : s.size = 0
  · rw [flawR_size (.inl (by omega))]
    have h1 : (s.size : Int) < 1 := by omega
    clear ln
    go_enter Tryd.func23, Tryd.ntmps23
    go_wp2
    go_ret
    exact ⟨rfl, rfl⟩
  · have h1 : ¬ (s.size : Int) < 1 := by omega
    by_cases h2 : 200 < s.size
    · rw [flawR_size (.inr (by omega))]
      have h3 : (200 : Int) < (s.size : Int) := by omega
      clear ln
      go_enter Tryd.func23, Tryd.ntmps23
      go_wp2
      go_ret
      exact ⟨rfl, rfl⟩
    · have h3 : ¬ (200 : Int) < (s.size : Int) := by omega
      have HS : Hid (¬ (s.data.toList.length = 0 ∨ 200 < s.data.toList.length)) := by intro h; omega
      clear ln
      go_enter Tryd.func23, Tryd.ntmps23
      go_wp2_with fail
      go_loop [3] (fun v => ∃ k : Nat, k ≤ s.size ∧ v = .int .i64 (k : Int) ∧ allD (s.data.toList.take k) = true) (fun v => s.size - (intOf v).toNat)
      case atStart => exact ⟨0, Nat.zero_le _, rfl, rfl⟩
      case round =>
        obtain ⟨k, hk, rfl, hok⟩ := hrel
        have HK : Hid (allD (s.data.toList.take k) = true) := hok
        clear hok
        by_cases hp : k < s.size
        · have HT : Hid (s.data.toList.take (k + 1) = s.data.toList.take k ++ [s[k]]) := take_snoc s k hp
          have HN : Hid (isD s[k] = false → allD s.data.toList = false) := allD_take_no s k hp
          have HY : Hid (48 ≤ ((s[k].toNat : Nat) : Int) → ((s[k].toNat : Nat) : Int) ≤ 57 → isD s[k] = true) := fun a b => isD_yes a b
          have HL : Hid (((s[k].toNat : Nat) : Int) < 48 ∨ 57 < ((s[k].toNat : Nat) : Int) → isD s[k] = false) := fun a => a.elim isD_lo isD_hi
          by_cases h1 : ((s[k].toNat : Nat) : Int) < 48 ∨ 57 < ((s[k].toNat : Nat) : Int)
          · have HX : Hid (((s[k].toNat : Nat) : Int) < 48 ∨ 57 < ((s[k].toNat : Nat) : Int)) := h1
            clear h1
            go_wp2_with fail
            refine (digit_no _ _ HX.out).mono ?_
            rintro e w' ⟨rfl, rfl⟩
            go_wp2_with fail
            go_ret
            exact ⟨ret_int (flawR_no HS.out (HN.out (HL.out HX.out))).symm, rfl⟩
          · have HX : Hid (48 ≤ ((s[k].toNat : Nat) : Int) ∧ ((s[k].toNat : Nat) : Int) ≤ 57) := by constructor <;> omega
            clear h1
            go_wp2_with fail
            refine (digit_yes _ _ HX.out.1 HX.out.2).mono ?_
            rintro e w' ⟨rfl, rfl⟩
            go_wp2_with fail
            go_round
            case rel => exact ⟨k + 1, by omega, by go_num, by rw [HT.out, allD_append, HK.out]; simp [allD, HY.out HX.out.1 HX.out.2]⟩
            case measure => simp [intOf]; omega
        · go_wp2_with fail
          go_ret
          refine ⟨ret_int ?_, rfl⟩
          have := HK.out
          rw [List.take_of_length_le (by simp; omega)] at this
          exact (flawR_ok HS.out this).symm

end Go.Proofs.YtlicdeppfhmfjaaDoor.check
