/- What the document's answer to Sum gives back. -/
import Derived.Test.YtegganhjlpachaaSum
namespace Go.Proofs.Ytegganhjlpachaa.cents
open Go.RowKit

theorem sumR_out {zs : List Int} (h1 : ¬ 50 < zs.length) (k : Nat) (hk : k < zs.length) (h : zs.getD k 0 < -1000000000000 ∨ 1000000000000 < zs.getD k 0) : sumR zs = (0, 2) := by
  unfold sumR
  rw [if_neg h1, if_pos (okAll_no _ _ zs k hk h)]

theorem ret_pair {a b : Int} {p : Int × Int} (h : p = (a, b)) : Ending.returned (.tuple #[.int .i64 a, .int .i64 b]) = .returned (.tuple #[.int .i64 p.1, .int .i64 p.2]) := by rw [h]

set_option maxHeartbeats 1000000 in
theorem summed_any (a : Option Addr) (len cap : Nat) (zs : List Int) (w : World) (hr : Row w a len zs) (hl : len * 8 ≤ 140737488351232) :
    Calls Try.prog 10 #[.slice a len cap] w fun e w' => e = .returned (.tuple #[.int .i64 (sumR zs).1, .int .i64 (sumR zs).2]) ∧ w' = w := by
  have hz := hr.1
  by_cases h50 : 50 < len
  · have e : sumR zs = (0, 1) := by unfold sumR; rw [if_pos (by omega)]
    rw [e]
    have h51 : (50 : Int) < (len : Int) := by omega
    clear e hr hz
    go_enter Try.func10, Try.ntmps10
    go_wp2
    go_ret2
    exact ⟨rfl, rfl⟩
  · obtain ⟨_, hr⟩ := hr
    go_enter Try.func10, Try.ntmps10
    go_wp2
    go_loop [4, 5, 6] (fun u d i => ∃ (k : Nat) (up down : Int), k ≤ len ∧ i = .int .i64 k ∧ u = .int .i64 up ∧ d = .int .i64 down ∧ 0 ≤ up ∧ up ≤ k * 1000000000000 ∧ 0 ≤ down ∧ down ≤ k * 1000000000000 ∧ up - down = (zs.take k).sum ∧ okAll (-1000000000000) 1000000000000 (zs.take k) = true) (fun _ _ i => len - (intOf i).toNat)
    case atStart => exact ⟨0, 0, 0, Nat.zero_le _, rfl, rfl, rfl, by omega, by omega, by omega, by omega, rfl, rfl⟩
    case round =>
      obtain ⟨k, up, down, hk, rfl, rfl, rfl, u1, u2, d1, d2, hs, hok⟩ := hrel
      have HS : Hid (up - down = (zs.take k).sum) := hs
      have HO : Hid (okAll (-1000000000000) 1000000000000 (zs.take k) = true) := hok
      clear hs hok
      by_cases hlt : k < len
      · rcases hr with h0 | ⟨b, off, rfl, hc⟩
        · omega
        have hcell := hc k hlt
        clear hc
        have HT := hide_sum zs k (by omega)
        generalize hzk : zs.getD k 0 = z at hcell
        have HZ : Hid (zs.getD k 0 = z) := hzk
        clear hzk
        by_cases hin : z < -1000000000000 ∨ 1000000000000 < z
        · go_wp2_with fail
          refine (in_no _ _ _ _ hin).mono ?_
          rintro e w' ⟨rfl, rfl⟩
          go_wp2
          go_ret2
          exact ⟨ret_pair (sumR_out (by omega) k (by omega) (by rw [HZ.out]; exact hin)), rfl⟩
        · have i1 : -1000000000000 ≤ z := by omega
          have i2 : z ≤ 1000000000000 := by omega
          clear hin
          by_cases hp : 0 < z
          · go_wp2_with fail
            refine (in_yes _ _ _ _ i1 i2).mono ?_
            rintro e w' ⟨rfl, rfl⟩
            go_wp2
            go_round
            case rel => exact ⟨k + 1, up + z, down, by omega, by go_num, rfl, rfl, by omega, by omega, by omega, by omega, by rw [HT.out, ← HS.out, HZ.out]; omega, okAll_step _ _ zs k (by omega) HO.out (by rw [HZ.out]; omega) (by rw [HZ.out]; omega)⟩
            case measure => simp [intOf]; omega
          · go_wp2_with fail
            refine (in_yes _ _ _ _ i1 i2).mono ?_
            rintro e w' ⟨rfl, rfl⟩
            go_wp2
            go_round
            case rel => exact ⟨k + 1, up, down - z, by omega, by go_num, rfl, rfl, by omega, by omega, by omega, by omega, by rw [HT.out, ← HS.out, HZ.out]; omega, okAll_step _ _ zs k (by omega) HO.out (by rw [HZ.out]; omega) (by rw [HZ.out]; omega)⟩
            case measure => simp [intOf]; omega
      · have hsum : up - down = zs.sum := by rw [HS.out, List.take_of_length_le (by omega)]
        have hall : okAll (-1000000000000) 1000000000000 zs = true := by have := HO.out; rwa [List.take_of_length_le (by omega)] at this
        clear HO HS
        by_cases g1 : 1000000000000 < up - down
        · have E : Hid (sumR zs = (0, 2)) := by unfold sumR; rw [if_neg (by omega), if_neg (by simp [hall]), if_pos (by omega)]; rfl
          clear hall hsum
          go_wp2
          go_ret2
          exact ⟨ret_pair E.out, rfl⟩
        · by_cases g2 : 1000000000000 < down - up
          · have E : Hid (sumR zs = (0, 2)) := by unfold sumR; rw [if_neg (by omega), if_neg (by simp [hall]), if_pos (by omega)]; rfl
            clear hall hsum
            go_wp2
            go_ret2
            exact ⟨ret_pair E.out, rfl⟩
          · have E : Hid (sumR zs = (up - down, 0)) := by unfold sumR; rw [if_neg (by omega), if_neg (by simp [hall]), if_neg (by omega), hsum]; rfl
            clear hall hsum
            go_wp2
            go_ret2
            exact ⟨ret_pair E.out, rfl⟩

end Go.Proofs.Ytegganhjlpachaa.cents
