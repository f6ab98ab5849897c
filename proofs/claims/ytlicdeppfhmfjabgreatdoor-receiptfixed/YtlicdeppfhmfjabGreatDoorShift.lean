/- What words.shift, words.ones and words.isField give back. -/
import Derived.Test.YtlicdeppfhmfjabGreatDoorTrioB
import Derived.Test.YtlicdeppfhmfjabGreatDoorBitw
import Derived.Test.YtlicdeppfhmfjabGreatDoorBop
namespace Go.Proofs.YtlicdeppfhmfjabGreatDoor.words
open Go.RowKit

theorem pow_min {j : Nat} (hj : ¬ j ≤ 64) : ∃ d, 2 ^ j = 2 ^ 64 * 2 ^ d := ⟨j - 64, by rw [← Nat.pow_add]; congr 1; omega⟩

theorem sh_down (v j : Nat) (hj : 0 < j) (hv : v < 2 ^ 64) : ((sh v (-(j : Int)) : Nat) : Int) = (v : Int) / 2 ^ min j 64 := by
  unfold sh
  rw [if_pos (by omega), show (-(-(j : Int))).toNat = j by omega]
  by_cases h : j ≤ 64
  · rw [Nat.min_eq_left h]; simp
  · rw [Nat.min_eq_right (by omega)]
    have h1 : v / 2 ^ j = 0 := Nat.div_eq_of_lt (Nat.lt_of_lt_of_le hv (Nat.pow_le_pow_right (by decide) (by omega)))
    rw [h1]
    omega
theorem sh_up (v : Nat) (k : Int) (hk : 0 ≤ k) : ((sh v k : Nat) : Int) = IntKind.u64.wrap ((v : Int) * 2 ^ min k.toNat 64) := by
  unfold sh
  rw [if_neg (by omega), IntKind.wrap_u64]
  by_cases h : k.toNat ≤ 64
  · rw [Nat.min_eq_left h]; simp
  · rw [Nat.min_eq_right (by omega)]
    obtain ⟨d, hd⟩ := pow_min h
    rw [hd, Nat.mul_left_comm, Nat.mul_mod_right]
    omega

theorem ones_shift (n : Nat) (h0 : 1 ≤ n) (h1 : n ≤ 64) : ((onesN n : Nat) : Int) = 18446744073709551615 / 2 ^ (64 - n) := by
  have e : (18446744073709551615 : Int) / 2 ^ (64 - n) = ((18446744073709551615 / 2 ^ (64 - n) : Nat) : Int) := by simp
  rw [e]
  congr 1
  unfold onesN
  have hp : 2 ^ 64 = 2 ^ n * 2 ^ (64 - n) := by rw [← Nat.pow_add]; congr 1; omega
  have h2 : 0 < 2 ^ (64 - n) := Nat.two_pow_pos _
  have h3 : 0 < 2 ^ n := Nat.two_pow_pos _
  symm
  apply Nat.div_eq_of_lt_le
  · have : (2 ^ n - 1) * 2 ^ (64 - n) = 2 ^ 64 - 2 ^ (64 - n) := by rw [hp, Nat.sub_mul, Nat.one_mul]
    omega
  · have : (2 ^ n - 1 + 1) * 2 ^ (64 - n) = 2 ^ 64 := by rw [hp, Nat.sub_add_cancel h3]
    omega

theorem shift_any (v : Nat) (k : Int) (w : World) (hv : v < 2 ^ 64) (k0 : -96 ≤ k) (k1 : k ≤ 96) :
    Calls Tryz.prog 96 #[.int .u64 (v : Int), .int .i64 k] w fun e w' => e = .returned (.int .u64 (sh v k : Nat)) ∧ w' = w := by
  by_cases h : k < 0
  · obtain ⟨j, rfl⟩ : ∃ j : Nat, k = -(j : Int) := ⟨(-k).toNat, by omega⟩
    have hj : 0 < j := by omega
    have e := sh_down v j hj hv
    have e2 : -(-(j : Int)) = (j : Int) := by omega
    rw [e]
    clear e
    go_enter Tryz.func96, Tryz.ntmps96
    go_wp2
    go_ret
    exact ⟨rfl, rfl⟩
  · have e := sh_up v k (by omega)
    rw [e]
    clear e
    go_enter Tryz.func96, Tryz.ntmps96
    go_wp2
    go_ret
    exact ⟨rfl, rfl⟩

theorem ones_any (n : Nat) (w : World) (h0 : 1 ≤ n) (h1 : n ≤ 64) :
    Calls Tryz.prog 97 #[.int .i64 (n : Int)] w fun e w' => e = .returned (.int .u64 (onesN n : Nat)) ∧ w' = w := by
  rw [ones_shift n h0 h1]
  go_enter Tryz.func97, Tryz.ntmps97
  go_wp2
  go_ret
  exact ⟨rfl, rfl⟩

theorem isField_yes (lo n : Int) (w : World) (h0 : 0 ≤ lo) (h1 : 1 ≤ n) (h2 : n ≤ 64) (h3 : lo ≤ 96 - n) :
    Calls Tryz.prog 95 #[.int .i64 lo, .int .i64 n] w fun e w' => e = .returned (.bool true) ∧ w' = w := by
  go_enter Tryz.func95, Tryz.ntmps95
  go_wp2
  go_ret
  exact ⟨rfl, rfl⟩

end Go.Proofs.YtlicdeppfhmfjabGreatDoor.words
