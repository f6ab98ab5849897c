/- What picked gives back: a number from 0 to many - 1. -/
import Derived.Test.YtipihacnkiijaacOpenW
import Derived.OpenShut
namespace Go.Proofs.Ytipihacnkiijaac.words
open Go.RowKit

/-- The number that picked makes of n. -/
def pick (n many : Int) : Int := (if n < 0 then -(n + 1) else n) % many

theorem pick_nonneg (n many : Int) (h : 0 < many) : 0 ≤ pick n many := Int.emod_nonneg _ (by omega)
theorem pick_lt (n many : Int) (h : 0 < many) : pick n many < many := Int.emod_lt_of_pos _ h

theorem ret_int {k : IntKind} {a b : Int} (h : a = b) : Ending.returned (.int k a) = .returned (.int k b) := by rw [h]

set_option maxHeartbeats 400000 in
theorem picked_any (n many : Int) (w : World) (hn : (Lit.int .i64 n).wf = true) (hm : 0 < many) (hm' : many ≤ 4000000000000) :
    Calls Try.prog 14 #[.int .i64 n, .int .i64 many] w fun e w' => e = .returned (.int .i64 (pick n many)) ∧ w' = w := by
  have hb : -9223372036854775808 ≤ n ∧ n ≤ 9223372036854775807 := bounds_i64 hn
  obtain ⟨hb1, hb2⟩ := hb
  by_cases h : n < 0
  · have e0 : pick n many = (-(n + 1)) % many := by unfold pick; rw [if_pos h]
    rw [e0]
    go_enter Try.func14, Try.ntmps14
    go_wp2
    go_ret
    exact ⟨ret_int (by rw [← Int.neg_tmod, Int.tmod_eq_emod_of_nonneg (by omega)]), rfl⟩
  · have e0 : pick n many = n % many := by unfold pick; rw [if_neg h]
    rw [e0]
    go_enter Try.func14, Try.ntmps14
    go_wp2
    go_ret
    exact ⟨rfl, rfl⟩

theorem pow_lt {m : Nat} (h : m < 64) : (2 : Int) ^ m < 18446744073709551616 := by
  have h1 : 2 ^ m < 2 ^ 64 := Nat.pow_lt_pow_right (by decide) h
  have h2 : ((2 ^ m : Nat) : Int) < ((2 ^ 64 : Nat) : Int) := Int.ofNat_lt.2 h1
  simpa using h2
theorem pow_pos (m : Nat) : 0 < (2 : Int) ^ m := by
  have h1 : 0 < 2 ^ m := Nat.two_pow_pos m
  have h2 : ((0 : Nat) : Int) < ((2 ^ m : Nat) : Int) := Int.ofNat_lt.2 h1
  simpa using h2
theorem wrap_pow (m : Nat) (h : m < 64) : IntKind.u64.wrap ((2 : Int) ^ m) = 2 ^ m := by
  have h1 := pow_lt h
  have h2 := pow_pos m
  have e : ∀ n : Int, IntKind.u64.wrap n = n % 18446744073709551616 := fun n => by simp [IntKind.wrap, IntKind.bits, IntKind.signed]
  rw [e, Int.emod_eq_of_lt (by omega) h1]
theorem pow_ne (m : Nat) : ((2 : Int) ^ m == 0) = false := by
  have h2 := pow_pos m
  have h3 : (2 : Int) ^ m ≠ 0 := by omega
  simpa using h3
theorem tmod_pow (v m : Nat) : (v : Int).tmod (2 ^ m) = ((v % 2 ^ m : Nat) : Int) := by
  rw [Int.tmod_eq_emod_of_nonneg (by omega)]
  simp

/-- v has m bits at most. -/
structure Fits (v m : Nat) : Prop where
  out : v < 2 ^ m

end Go.Proofs.Ytipihacnkiijaac.words
