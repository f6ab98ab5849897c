/- Fields of a wide number: plain facts; Rsh, Lsh, Mod by a power of 2. -/
import Derived.Test.YtopbiamlmdpphaaBigDivided
import Derived.Test.YtopbiamlmdpphaaBitw
namespace Go.Proofs.Ytopbiamlmdpphaa.words
open Go.RowKit

theorem big96_bit {a b c : Nat} (ha : a < 2 ^ 32) (hb : b < 2 ^ 32) (m : Nat) : (big96V a b c).testBit m = bit3 a b c m := by
  have e : big96V a b c = 2 ^ 32 * (2 ^ 32 * c + b) + a := by unfold big96V; omega
  rw [e, Nat.testBit_two_pow_mul_add _ ha, Nat.testBit_two_pow_mul_add _ hb]
  unfold bit3
  by_cases h1 : m < 32
  · rw [if_pos h1, if_pos h1]
  · rw [if_neg h1, if_neg h1]
    by_cases h2 : m < 64
    · rw [if_pos h2, if_pos (by omega)]
    · rw [if_neg h2, if_neg (by omega)]
      congr 1
theorem bits_val {a b c lo n : Nat} (ha : a < 2 ^ 32) (hb : b < 2 ^ 32) (hc : c < 2 ^ 32) (hn : n ≤ 64) : bitsN a b c lo n = big96V a b c / 2 ^ lo % 2 ^ n := by
  apply Nat.eq_of_testBit_eq
  intro j
  rw [bits_bit ha hb hc hn, Nat.testBit_mod_two_pow, Nat.testBit_div_two_pow, big96_bit ha hb, Nat.add_comm]

theorem dig_length {m k : Nat} (h1 : 4294967296 ^ k ≤ m) (h2 : m < 4294967296 ^ (k + 1)) : (dig m).length = k + 1 := by
  have h3 := dig_len (k + 1) h2
  have h4 := dig_low m
  rcases Nat.lt_or_ge (dig m).length (k + 1) with h | h
  · have : 4294967296 ^ (dig m).length ≤ 4294967296 ^ k := Nat.pow_le_pow_right (by decide) (by omega)
    omega
  · omega

theorem bitsOf_pow (n : Nat) : BitsOf (2 ^ n) (n + 1) := by
  refine ⟨Nat.pow_lt_pow_right (by decide) (by omega), fun h => ?_, fun _ => ⟨by omega, by rw [Nat.add_sub_cancel]; exact Nat.le_refl _⟩⟩
  have := Nat.two_pow_pos n
  omega

/-- Division by a power of 2. -/
theorem div_pow (M n : Nat) (hM : M < 79228162514264337593543950336) (h1 : n ≤ 64) : ∀ w' xa xn xc ya yn yc, Ru w' xa xn xc (dig M) → Ru w' ya yn yc (dig (2 ^ n)) → Calls Try.prog 53 #[.slice xa xn xc, .slice ya yn yc] w' fun e w'' => DivGives w' (M / 2 ^ n) (M % 2 ^ n) e w'' := by
  intro w' xa xn xc ya yn yc hx hy
  have ey := hy.len
  have ex := hx.len
  have hl : (dig M).length ≤ 3 := dig_len 3 (by omega)
  have hp := Nat.two_pow_pos n
  by_cases h : M < 2 ^ n
  · have hly : (dig (2 ^ n)).length ≤ 3 := dig_len 3 (Nat.lt_of_le_of_lt (Nat.pow_le_pow_right (by decide) h1 : 2 ^ n ≤ 2 ^ 64) (by decide))
    have := div_less xa ya xn yn xc yc M (2 ^ n) w' hx hy (by omega) (by omega) h
    rw [Nat.div_eq_of_lt h, Nat.mod_eq_of_lt h]
    exact this
  · by_cases h2 : xn ≤ 2
    · exact div_two xa ya xn yn xc yc M (2 ^ n) w' hx hy h2 hp (by omega)
    · have hx3 : xn = 3 := by omega
      rcases (by omega : n < 32 ∨ (32 ≤ n ∧ n < 64) ∨ n = 64) with hn | hn | hn
      · have e1 : (dig (2 ^ n)).length = 0 + 1 := dig_length (k := 0) hp (Nat.lt_of_lt_of_le (Nat.pow_lt_pow_right (by decide) hn : 2 ^ n < 2 ^ 32) (by decide))
        obtain rfl : yn = 1 := by omega
        exact div_one xa ya xn xc yc M (2 ^ n) w' hx hy (by omega) (by omega)
      · have e1 : (dig (2 ^ n)).length = 1 + 1 := dig_length (k := 1) (Nat.le_trans (by decide : 4294967296 ^ 1 ≤ 2 ^ 32) (Nat.pow_le_pow_right (by decide) hn.1)) (Nat.lt_of_lt_of_le (Nat.pow_lt_pow_right (by decide) hn.2 : 2 ^ n < 2 ^ 64) (by decide))
        obtain rfl : yn = 2 := by omega
        refine div_long xa ya xn 2 xc yc M (2 ^ n) (63 - n) (n + 1) w' hx hy (by omega) (by omega) (Nat.le_refl _) (by omega) (by omega) ?_ (by omega) (bitsOf_pow n) (by omega)
        rw [← Nat.pow_add, show n + (63 - n) = 63 by omega]
      · subst hn
        have e1 : (dig (2 ^ 64)).length = 2 + 1 := dig_length (k := 2) (by decide) (by decide)
        obtain rfl : yn = 3 := by omega
        exact div_long xa ya xn 3 xc yc M (2 ^ 64) 31 65 w' hx hy (by omega) (by omega) (by omega) (by omega) (by omega) (by decide) (by omega) (bitsOf_pow 64) (by omega)

set_option maxHeartbeats 2000000 in
/-- Mod, whatever way the division goes. -/
theorem Mod_of (z x y m d q t : Nat) (w : World) (hx : Bg w x m) (hy : Bg w y d) (hz : Ob w z) (hdl : (dig d).length ≤ 100)
    (hdv : ∀ w' xa xn xc ya yn yc, Ru w' xa xn xc (dig m) → Ru w' ya yn yc (dig d) → Calls Try.prog 53 #[.slice xa xn xc, .slice ya yn yc] w' fun e w'' => DivGives w' q t e w'') :
    Calls Try.prog 43 #[.pointer (some ⟨z, 0, none⟩), .pointer (some ⟨x, 0, none⟩), .pointer (some ⟨y, 0, none⟩)] w fun e w' => OpPost w z t e w' := by
  have hb0 : Below w.heap.size w (w.alloc (.cells #[.bool false, .slice none 0 0] 53)) := (Below.refl _ w).alloc (Nat.le_refl _) _
  have hzl := hz.lt
  have hd := divMod_of w.heap.size x y z q t m d _ (hx.below hb0) (hy.below hb0) (ob_new w) (hz.below hb0) (by omega) hdl hdv
  have HD : Hid (Calls Try.prog 62 #[.pointer (some ⟨w.heap.size, 0, none⟩), .pointer (some ⟨x, 0, none⟩), .pointer (some ⟨y, 0, none⟩), .pointer (some ⟨z, 0, none⟩)] (w.alloc (.cells #[.bool false, .slice none 0 0] 53)) fun e w' => QuoPost (w.alloc (.cells #[.bool false, .slice none 0 0] 53)) w.heap.size z q t e w') := hd
  have HB : Hid (Below w.heap.size w (w.alloc (.cells #[.bool false, .slice none 0 0] 53))) := hb0
  clear hd hx hy hz hb0 hdl hdv
  go_enter Try.func43, Try.ntmps43
  go_wp2_with fail
  refine HD.out.mono ?_
  rintro e w1 ⟨rfl, _, g2, hex⟩
  have F : Hid (Bg w1 z t ∧ Ex w w1 z) := ⟨g2, (Ex2.from HB.out hex).left (Nat.le_refl _)⟩
  clear g2 hex
  go_wp2_with fail
  go_ret
  exact ⟨rfl, F.out.1, F.out.2⟩

set_option maxHeartbeats 2000000 in
theorem Rsh_abs (z x m r : Nat) (k : Int) (w : World) (hx : Bg w x m) (hz : Ob w z) (hr : ∀ w' xa xn xc, Ru w' xa xn xc (dig m) → Calls Try.prog 59 #[.slice xa xn xc, .int .u64 k] w' fun e w'' => Gives w' r e w'') :
    Calls Try.prog 41 #[.pointer (some ⟨z, 0, none⟩), .pointer (some ⟨x, 0, none⟩), .int .u64 k] w fun e w' => OpPost w z r e w' := by
  obtain ⟨xa, xn, xc, x0, x1, xr⟩ := hx.parts
  have HT : Hid (Calls Try.prog 59 #[.slice xa xn xc, .int .u64 k] w fun e w'' => Gives w r e w'') := hr w xa xn xc xr
  have HZ : Hid (Ob w z) := hz
  clear hx hz xr hr
  go_enter Try.func41, Try.ntmps41
  go_wp2_with fail
  refine HT.out.mono ?_
  rintro e w1 ⟨ra, rn, rc, rfl, hr, hb⟩
  have HB : Hid (Below w.heap.size w w1) := hb
  have HRR : Hid (Ru w1 ra rn rc (dig r)) := hr
  clear hr hb
  go_wp2_with fail
  refine (give_any z _ _ _ _ (HZ.out.below HB.out)).mono ?_
  rintro e w2 ⟨rfl, h2, hex⟩
  have F : Hid (Bg w2 z r ∧ Ex w w2 z) := ⟨⟨_, _, _, h2, HRR.out.ex (HZ.out.below HB.out) hex⟩, Ex.of HB.out hex⟩
  clear h2 hex
  go_wp2_with fail
  go_ret
  exact ⟨rfl, F.out.1, F.out.2⟩

set_option maxHeartbeats 2000000 in
theorem Lsh_abs (z x m r : Nat) (k : Int) (w : World) (hx : Bg w x m) (hz : Ob w z) (hxz : x ≠ z) (hr : ∀ w' xa xn xc, Ru w' xa xn xc (dig m) → Calls Try.prog 61 #[.slice xa xn xc, .int .u64 k] w' fun e w'' => Gives w' r e w'') :
    Calls Try.prog 42 #[.pointer (some ⟨z, 0, none⟩), .pointer (some ⟨x, 0, none⟩), .int .u64 k] w fun e w' => OpPost w z r e w' := by
  obtain ⟨xa, xn, xc, x0, x1, xr⟩ := hx.parts
  have HT : Hid (∀ w', Below w.heap.size w w' → Calls Try.prog 61 #[.slice xa xn xc, .int .u64 k] w' fun e w'' => Gives w' r e w'') := fun w' hb => hr w' xa xn xc (xr.below hb)
  have HZ : Hid (Ob w z) := hz
  have KW : Hid (Below w.heap.size w w.drew) := (Below.refl _ w).drew
  have KS : Hid (w.drew.cell? ⟨x, 0, none⟩ = some (.bool false) ∧ w.drew.cell? ⟨x, 1, none⟩ = some (.slice xa xn xc)) := ⟨x0, x1⟩
  clear hx hz xr hr
  go_enter Try.func42, Try.ntmps42
  go_wp2_with fail
  go_region_held (fun v => v.cell? ⟨x, 0, none⟩ = some (.bool false) ∧ v.cell? ⟨x, 1, none⟩ = some (.slice xa xn xc))
    (first | exact K2.out | exact K1.out | exact KS.out)
    (first
      | (go_at_call 61; refine (HT.out _ KW.out).mono ?_; rintro e w1 ⟨ra, rn, rc, rfl, hr, hb⟩
         have B1 : Hid (Below w.heap.size w w1) := KW.out.trans (hb.mono KW.out.size)
         have K1 : Hid (w1.cell? ⟨x, 0, none⟩ = some (.bool false) ∧ w1.cell? ⟨x, 1, none⟩ = some (.slice xa xn xc)) := ⟨cell_bel hb KS.out.1, cell_bel hb KS.out.2⟩
         have R1 : Hid (Ru w1 ra rn rc (dig r)) := hr
         clear hb hr)
      | (go_at_call 47; refine (give_any z _ _ _ _ (HZ.out.below B1.out)).mono ?_; rintro e w2 ⟨rfl, h2, hex⟩
         have K2 : Hid (w2.cell? ⟨x, 0, none⟩ = some (.bool false) ∧ w2.cell? ⟨x, 1, none⟩ = some (.slice xa xn xc)) := ⟨cell_ex hex K1.out.1 hxz, cell_ex hex K1.out.2 hxz⟩
         have F2 : Hid (Bg w2 z r ∧ Ex w w2 z) := ⟨⟨_, _, _, h2, R1.out.ex (HZ.out.below B1.out) hex⟩, Ex.of B1.out hex⟩
         clear h2 hex))
  all_goals (go_wp2_with fail; go_ret; exact ⟨rfl, F2.out.1, F2.out.2⟩)

theorem Rsh_any (z x m k : Nat) (w : World) (hx : Bg w x m) (hz : Ob w z) (hm : (dig m).length ≤ 100) (hk : k ≤ 3000) :
    Calls Try.prog 41 #[.pointer (some ⟨z, 0, none⟩), .pointer (some ⟨x, 0, none⟩), .int .u64 (k : Int)] w fun e w' => OpPost w z (m / 2 ^ k) e w' := by
  refine Rsh_abs z x m _ (k : Int) w hx hz fun w' xa xn xc hr => ?_
  have h := right_any xa xn xc (k / 32) (k % 32) (dig m) w' hr (by rw [← hr.len]; omega) (by omega) (by omega)
  rw [show 32 * (k / 32) + k % 32 = k by omega, nv_dig] at h
  exact h
theorem Lsh_any (z x m k : Nat) (w : World) (hx : Bg w x m) (hz : Ob w z) (hxz : x ≠ z) (hm : (dig m).length ≤ 100) (hk : k ≤ 3000) :
    Calls Try.prog 42 #[.pointer (some ⟨z, 0, none⟩), .pointer (some ⟨x, 0, none⟩), .int .u64 (k : Int)] w fun e w' => OpPost w z (m * 2 ^ k) e w' := by
  refine Lsh_abs z x m _ (k : Int) w hx hz hxz fun w' xa xn xc hr => ?_
  have h := left_any xa xn xc (k / 32) (k % 32) (dig m) w' hr (by rw [← hr.len]; exact hm) (by omega) (by omega)
  rw [show 32 * (k / 32) + k % 32 = k by omega, nv_dig] at h
  exact h

end Go.Proofs.Ytopbiamlmdpphaa.words
