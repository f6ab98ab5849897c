/- What the document's answer to Rest gives back. -/
import Derived.Test.YtopbiamlmdpphabCkRest
import Derived.Test.YtopbiamlmdpphabCkMay
namespace Go.Proofs.Ytopbiamlmdpphab.check
open Go.RowKit

theorem right_step (n p z : Nat) (h1 : 48 ≤ z) (h : p < 97) (hz : z ≤ 57) : (((n + p * (z - 48)) % 97 : Nat) : Int) = ((n : Int) + (p : Int) * ((z : Int) - 48)) % 97 ∧ (0 : Int) ≤ (p : Int) * ((z : Int) - 48) ∧ (p : Int) * ((z : Int) - 48) ≤ 96 * 9 := by
  have e : ((z : Int) - 48) = ((z - 48 : Nat) : Int) := by omega
  rw [e]
  have hb : p * (z - 48) ≤ 96 * 9 := Nat.mul_le_mul (by omega) (by omega)
  have e2 : (p : Int) * ((z - 48 : Nat) : Int) = ((p * (z - 48) : Nat) : Int) := by rw [Int.natCast_mul]
  rw [e2]
  generalize p * (z - 48) = m at *
  omega

set_option maxHeartbeats 1000000 in
theorem rested_any (s : ByteArray) (w : World) :
    Calls Try.prog 12 #[.string s] w fun e w' => e = .returned (.tuple #[.int .i64 (restR s.data.toList), .int .i64 (flawR s.data.toList)]) ∧ w' = w := by
  have HF := may_any s w
  by_cases h0 : flawR s.data.toList = 0
  · have e : restR s.data.toList = ((restN 0 (digs s.data.toList) : Nat) : Int) := by unfold restR; rw [if_pos h0]
    rw [e, h0]
    rw [h0] at HF
    have HD : Hid (allD s.data.toList = true) := (flawR_zero h0).2
    have hl := (flawR_zero h0).1
    rw [len_eq] at hl
    have HFF : Hid (Calls Try.prog 21 #[.string s] w fun e w' => e = .returned (.int .i64 0) ∧ w' = w) := HF
    clear e h0 HF
    go_enter Try.func12, Try.ntmps12
    go_wp2_with fail
    refine HFF.out.mono ?_
    rintro e w1 ⟨rfl, rfl⟩
    go_wp2_with fail
    go_loop [5, 6, 7] (fun n p i => ∃ k : Nat, k ≤ s.size ∧ i = .int .i64 ((k : Int) - 1) ∧ n = .int .i64 ((restN 0 (digs (s.data.toList.drop k)) : Nat) : Int) ∧ p = .int .i64 ((powN (s.size - k) : Nat) : Int)) (fun _ _ i => (intOf i + 1).toNat)
    case atStart => exact ⟨s.size, Nat.le_refl _, rfl, by rw [List.drop_of_length_le (by simp)]; rfl, by rw [Nat.sub_self]; rfl⟩
    case round =>
      obtain ⟨k, hk, rfl, rfl, rfl⟩ := hrel
      by_cases hk0 : k = 0
      · subst hk0
        rw [List.drop_zero]
        go_wp2_with fail
        go_ret2
        exact ⟨rfl, rfl⟩
      · obtain ⟨j, rfl⟩ : ∃ j, k = j + 1 := ⟨k - 1, by omega⟩
        have hp : j < s.size := by omega
        obtain ⟨hk1, hk2, hk3⟩ := take_parts s j hp HD.out
        have hcb := isD_bd hk2
        have ej : (((j + 1 : Nat) : Int) - 1) = (j : Int) := by omega
        rw [ej]
        have hr := restN_lt (digs (s.data.toList.drop (j + 1))) 0 (by decide)
        have hpw := powN_lt (s.size - (j + 1))
        have hst := right_step (restN 0 (digs (s.data.toList.drop (j + 1)))) (powN (s.size - (j + 1))) (s[j]).toNat (by omega) hpw (by omega)
        have HT : Hid (((restN 0 (digs (s.data.toList.drop j)) : Nat) : Int) = (((restN 0 (digs (s.data.toList.drop (j + 1))) : Nat) : Int) + ((powN (s.size - (j + 1)) : Nat) : Int) * (((s[j].toNat : Nat) : Int) - 48)) % 97) := by
          show _ = _
          rw [← hst.1, drop_cons s j hp, show digs (s[j] :: s.data.toList.drop (j + 1)) = (s[j].toNat - 48) :: digs (s.data.toList.drop (j + 1)) from rfl, rest_right _ _ (by omega), digs_len, List.length_drop, len_eq]
        have HP : Hid (((powN (s.size - j) : Nat) : Int) = 10 * ((powN (s.size - (j + 1)) : Nat) : Int) % 97) := by
          show _ = _
          rw [show s.size - j = (s.size - (j + 1)) + 1 by omega, powN]
          omega
        obtain ⟨_, hs1, hs2⟩ := hst
        clear hk1 hk2 hk3 hk0 hk ej
        generalize restN 0 (digs (s.data.toList.drop (j + 1))) = v at *
        generalize powN (s.size - (j + 1)) = p at *
        obtain ⟨z1, z2⟩ := hcb
        go_wp2_with fail
        go_round
        case rel => exact ⟨j, by omega, by go_num, by rw [HT.out], by rw [HP.out]⟩
        case measure => simp [intOf]
  · have e : restR s.data.toList = 0 := by unfold restR; rw [if_neg h0]
    rw [e]
    have hne : (flawR s.data.toList != 0) = true := by simpa using h0
    clear e h0
    generalize flawR s.data.toList = f at *
    go_enter Try.func12, Try.ntmps12
    go_wp2_with fail
    refine HF.mono ?_
    rintro e w1 ⟨rfl, rfl⟩
    clear HF
    go_wp2_with fail
    go_ret2
    exact ⟨rfl, rfl⟩

end Go.Proofs.Ytopbiamlmdpphab.check
