/- What words.Bits gives back. -/
import Derived.Test.YtlicdeppfhmfjaaGreatDoorShift
namespace Go.Proofs.YtlicdeppfhmfjaaGreatDoor.words
open Go.RowKit

theorem sh_lt (v : Nat) (k : Int) (hv : v < 2 ^ 64) : sh v k < 2 ^ 64 := by
  unfold sh
  split
  · exact Nat.lt_of_le_of_lt (Nat.div_le_self _ _) hv
  · exact Nat.mod_lt _ (by decide)

theorem ones_lt (n : Nat) (h : n ≤ 64) : onesN n < 2 ^ 64 := by
  unfold onesN
  have := Nat.pow_le_pow_right (show 0 < 2 by decide) h
  have h2 : 0 < 2 ^ n := Nat.two_pow_pos _
  omega

theorem idx0 (x y z : Int) (w : World) : (Instr.index 85 (.agg #[.int .u32 x, .int .u32 y, .int .u32 z]) (.int .i64 0)).run Tryz.prog w = .ok (.int .u32 x) w := by kernel_rfl
theorem idx1 (x y z : Int) (w : World) : (Instr.index 85 (.agg #[.int .u32 x, .int .u32 y, .int .u32 z]) (.int .i64 1)).run Tryz.prog w = .ok (.int .u32 y) w := by kernel_rfl
theorem idx2 (x y z : Int) (w : World) : (Instr.index 85 (.agg #[.int .u32 x, .int .u32 y, .int .u32 z]) (.int .i64 2)).run Tryz.prog w = .ok (.int .u32 z) w := by kernel_rfl

set_option maxHeartbeats 1000000 in
theorem bits_any (a b c lo n : Nat) (w : World) (ha : a < 2 ^ 32) (hb : b < 2 ^ 32) (hc : c < 2 ^ 32) (n0 : 1 ≤ n) (n1 : n ≤ 64) (hl : lo + n ≤ 96) :
    Calls Tryz.prog 94 #[.agg #[.int .u32 (a : Int), .int .u32 (b : Int), .int .u32 (c : Int)], .int .i64 (lo : Int), .int .i64 (n : Int)] w fun e w' => e = .returned (.tuple #[.int .u64 (bitsN a b c lo n : Nat), .int .i64 0]) ∧ Below w.heap.size w w' := by
  have a1 : (a : Int) < 4294967296 := by omega
  have b1 : (b : Int) < 4294967296 := by omega
  have c1 : (c : Int) < 4294967296 := by omega
  have HB : Hid (Below w.heap.size w (w.alloc (.cells #[.int .u32 (a : Int), .int .u32 (b : Int), .int .u32 (c : Int)] 85))) := (Below.refl _ w).alloc (Nat.le_refl _) _
  have hE : bitsN a b c lo n = (sh a (-(lo : Int)) ||| sh b (32 - (lo : Int)) ||| sh c (64 - (lo : Int))) &&& onesN n := by unfold bitsN; rw [Int.zero_sub]
  have HE : Hid (bitsN a b c lo n = (sh a (-(lo : Int)) ||| sh b (32 - (lo : Int)) ||| sh c (64 - (lo : Int))) &&& onesN n) := hE
  clear hE
  have i0 := idx0 (a : Int) (b : Int) (c : Int)
  have i1 := idx1 (a : Int) (b : Int) (c : Int)
  have i2 := idx2 (a : Int) (b : Int) (c : Int)
  go_enter Tryz.func94, Tryz.ntmps94
  go_wp2_with fail
  refine (isField_yes _ _ _ (by omega) (by omega) (by omega) (by omega)).mono ?_
  rintro e wr ⟨rfl, rfl⟩
  go_wp2_with fail
  refine wp_loop_rounds 4 ?_
  rw [rounds_succ]
  go_wp2_with fail
  refine (shift_any a _ _ (by omega) (by omega) (by omega)).mono ?_
  rintro e wr ⟨rfl, rfl⟩
  have o1 : bits .or .u64 0 ((sh a (-(lo : Int)) : Nat) : Int) = ((sh a (-(lo : Int)) : Nat) : Int) := by
    have := or64 0 (sh a (-(lo : Int))) (by decide) (sh_lt _ _ (by omega))
    simpa using this
  have l0 : sh a (-(lo : Int)) < 2 ^ 64 := sh_lt _ _ (by omega)
  generalize sh a (-(lo : Int)) = s0 at *
  go_wp2_with fail
  rw [rounds_succ]
  go_wp2_with fail
  refine (shift_any b _ _ (by omega) (by omega) (by omega)).mono ?_
  rintro e wr ⟨rfl, rfl⟩
  have l1 : sh b (32 - (lo : Int)) < 2 ^ 64 := sh_lt _ _ (by omega)
  have o2 := or64 s0 (sh b (32 - (lo : Int))) l0 l1
  have l01 := Nat.or_lt_two_pow l0 l1
  clear o1
  generalize sh b (32 - (lo : Int)) = s1 at *
  go_wp2_with fail
  rw [rounds_succ]
  go_wp2_with fail
  refine (shift_any c _ _ (by omega) (by omega) (by omega)).mono ?_
  rintro e wr ⟨rfl, rfl⟩
  have l2 : sh c (64 - (lo : Int)) < 2 ^ 64 := sh_lt _ _ (by omega)
  have o3 := or64 (s0 ||| s1) (sh c (64 - (lo : Int))) l01 l2
  have l02 := Nat.or_lt_two_pow l01 l2
  clear o2
  generalize sh c (64 - (lo : Int)) = s2 at *
  go_wp2_with fail
  rw [rounds_succ]
  go_wp2_with fail
  refine (ones_any n _ (by omega) (by omega)).mono ?_
  rintro e wr ⟨rfl, rfl⟩
  have ln : onesN n < 2 ^ 64 := ones_lt n (by omega)
  have o4 := and64 (s0 ||| s1 ||| s2) (onesN n) l02 ln
  clear o3
  go_wp2_with fail
  go_ret2
  exact ⟨by rw [HE.out]; rfl, HB.out⟩

end Go.Proofs.YtlicdeppfhmfjaaGreatDoor.words
