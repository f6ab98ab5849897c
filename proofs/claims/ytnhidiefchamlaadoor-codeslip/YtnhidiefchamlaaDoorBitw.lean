/- Fields of a wide number, bit by bit: plain facts. -/
import Derived.Test.YtnhidiefchamlaaDoorWide
namespace Go.Proofs.YtnhidiefchamlaaDoor.words

/-- Shifted up, or down where k is below 0, within 64 bits. -/
def sh (v : Nat) (k : Int) : Nat := if k < 0 then v / 2 ^ (-k).toNat else v * 2 ^ k.toNat % 2 ^ 64
/-- The greatest number of n bits. -/
def onesN (n : Nat) : Nat := 2 ^ n - 1

theorem sh_bit (v : Nat) (k : Int) (j : Nat) (hj : j < 64) : (sh v k).testBit j = (decide (k ≤ j) && v.testBit ((j : Int) - k).toNat) := by
  unfold sh
  by_cases h : k < 0
  · rw [if_pos h, Nat.testBit_div_two_pow]
    have h1 : k ≤ (j : Int) := by omega
    rw [decide_eq_true h1, Bool.true_and]
    congr 1; omega
  · rw [if_neg h, Nat.testBit_mod_two_pow, Nat.testBit_mul_two_pow]
    rw [decide_eq_true hj, Bool.true_and]
    by_cases h1 : k ≤ (j : Int)
    · rw [decide_eq_true h1, decide_eq_true (show k.toNat ≤ j by omega)]
      congr 2; omega
    · rw [decide_eq_false h1, decide_eq_false (show ¬ k.toNat ≤ j by omega)]; simp

theorem ones_bit (n j : Nat) : (onesN n).testBit j = decide (j < n) := Nat.testBit_two_pow_sub_one ..

theorem bit_hi {x j k : Nat} (h : x < 2 ^ k) (hj : k ≤ j) : x.testBit j = false := Nat.testBit_lt_two_pow (Nat.lt_of_lt_of_le h (Nat.pow_le_pow_right (by decide) hj))

/-- The bit m of three words. -/
def bit3 (a b c : Nat) (m : Nat) : Bool := if m < 32 then a.testBit m else if m < 64 then b.testBit (m - 32) else c.testBit (m - 64)

theorem bit3_inj {a b c a' b' c' : Nat} (ha : a < 2 ^ 32) (hb : b < 2 ^ 32) (hc : c < 2 ^ 32) (ha' : a' < 2 ^ 32) (hb' : b' < 2 ^ 32) (hc' : c' < 2 ^ 32)
    (h : ∀ m, m < 96 → bit3 a b c m = bit3 a' b' c' m) : a = a' ∧ b = b' ∧ c = c' := by
  refine ⟨Nat.eq_of_testBit_eq fun i => ?_, Nat.eq_of_testBit_eq fun i => ?_, Nat.eq_of_testBit_eq fun i => ?_⟩
  · by_cases hi : i < 32
    · have := h i (by omega)
      simpa [bit3, hi] using this
    · rw [bit_hi ha (by omega), bit_hi ha' (by omega)]
  · by_cases hi : i < 32
    · have := h (i + 32) (by omega)
      simpa [bit3, show ¬ (i + 32 < 32) by omega, show i + 32 < 64 by omega] using this
    · rw [bit_hi hb (by omega), bit_hi hb' (by omega)]
  · by_cases hi : i < 32
    · have := h (i + 64) (by omega)
      simpa [bit3, show ¬ (i + 64 < 32) by omega, show ¬ (i + 64 < 64) by omega] using this
    · rw [bit_hi hc (by omega), bit_hi hc' (by omega)]

/-- The field of n bits from the bit lo on. -/
def bitsN (a b c lo n : Nat) : Nat := (sh a (0 - lo) ||| sh b (32 - lo) ||| sh c (64 - lo)) &&& onesN n

theorem bits_bit {a b c lo n : Nat} (ha : a < 2 ^ 32) (hb : b < 2 ^ 32) (_hc : c < 2 ^ 32) (hn : n ≤ 64) (j : Nat) : (bitsN a b c lo n).testBit j = (decide (j < n) && bit3 a b c (j + lo)) := by
  unfold bitsN
  rw [Nat.testBit_and, ones_bit]
  by_cases hj : j < n
  · rw [decide_eq_true hj, Bool.and_true, Bool.true_and, Nat.testBit_or, Nat.testBit_or, sh_bit _ _ _ (by omega), sh_bit _ _ _ (by omega), sh_bit _ _ _ (by omega)]
    unfold bit3
    rw [decide_eq_true (show (0 : Int) - (lo : Int) ≤ (j : Int) by omega), Bool.true_and]
    have e0 : ((j : Int) - (0 - (lo : Int))).toNat = j + lo := by omega
    have e1 : ((j : Int) - (32 - (lo : Int))).toNat = j + lo - 32 := by omega
    have e2 : ((j : Int) - (64 - (lo : Int))).toNat = j + lo - 64 := by omega
    rw [e0, e1, e2]
    by_cases h1 : j + lo < 32
    · rw [if_pos h1, decide_eq_false (show ¬ (32 : Int) - (lo : Int) ≤ (j : Int) by omega), decide_eq_false (show ¬ (64 : Int) - (lo : Int) ≤ (j : Int) by omega)]
      simp
    · rw [if_neg h1, decide_eq_true (show (32 : Int) - (lo : Int) ≤ (j : Int) by omega), bit_hi ha (by omega)]
      by_cases h2 : j + lo < 64
      · rw [if_pos h2, decide_eq_false (show ¬ (64 : Int) - (lo : Int) ≤ (j : Int) by omega)]
        simp
      · rw [if_neg h2, decide_eq_true (show (64 : Int) - (lo : Int) ≤ (j : Int) by omega), bit_hi hb (by omega)]
        simp
  · rw [decide_eq_false hj]; simp

theorem bits_lt {a b c lo n : Nat} : bitsN a b c lo n < 2 ^ n := by
  unfold bitsN onesN
  rw [Nat.and_two_pow_sub_one_eq_mod]
  exact Nat.mod_lt _ (Nat.two_pow_pos _)

/-- A word with the field's bits in it; k: how far the field's begin lies above the word's. -/
def putN (x v n : Nat) (k : Int) : Nat := (x &&& (2 ^ 32 - 1 - sh (onesN n) k % 2 ^ 32)) ||| (sh v k % 2 ^ 32)

theorem put_bit (x v n : Nat) (k : Int) (j : Nat) (hj : j < 32) : (putN x v n k).testBit j = (x.testBit j && !(decide (k ≤ j) && decide ((j : Int) - k < n)) || (decide (k ≤ j) && v.testBit ((j : Int) - k).toNat)) := by
  unfold putN
  have e : 2 ^ 32 - 1 - sh (onesN n) k % 2 ^ 32 = 2 ^ 32 - (sh (onesN n) k % 2 ^ 32 + 1) := by omega
  rw [Nat.testBit_or, Nat.testBit_and, e, Nat.testBit_two_pow_sub_succ (Nat.mod_lt _ (by decide)), Nat.testBit_mod_two_pow, Nat.testBit_mod_two_pow, decide_eq_true hj, Bool.true_and, Bool.true_and, Bool.true_and, sh_bit _ _ _ (by omega), sh_bit _ _ _ (by omega), ones_bit]
  by_cases h1 : k ≤ (j : Int)
  · have e2 : decide (((j : Int) - k).toNat < n) = decide ((j : Int) - k < n) := by
      rw [decide_eq_decide]; omega
    rw [e2]
  · rw [decide_eq_false h1]; simp

theorem put_lt (x v n : Nat) (k : Int) (hx : x < 2 ^ 32) : putN x v n k < 2 ^ 32 := by
  unfold putN
  have hy : sh v k % 2 ^ 32 < 2 ^ 32 := Nat.mod_lt _ (by decide)
  exact Nat.or_lt_two_pow (Nat.lt_of_le_of_lt Nat.and_le_left hx) hy

/-- The wide number with v in the field of n bits from the bit lo on. -/
theorem put_bits {a b c v lo n : Nat} (hv : v < 2 ^ n) (m : Nat) (hm : m < 96) :
    bit3 (putN a v n lo) (putN b v n ((lo : Int) - 32)) (putN c v n ((lo : Int) - 64)) m = if lo ≤ m ∧ m < lo + n then v.testBit (m - lo) else bit3 a b c m := by
  have key : ∀ (x : Nat) (j : Nat) (k : Int), j < 32 → k + (m : Int) = lo + j → (putN x v n k).testBit j = if lo ≤ m ∧ m < lo + n then v.testBit (m - lo) else x.testBit j := by
    intro x j k hj hk
    rw [put_bit _ _ _ _ _ hj]
    by_cases h1 : k ≤ (j : Int)
    · have e1 : ((j : Int) - k).toNat = m - lo := by omega
      rw [decide_eq_true h1, e1]
      by_cases h2 : (j : Int) - k < n
      · rw [decide_eq_true h2, if_pos (by omega)]; simp
      · rw [decide_eq_false h2, if_neg (by omega), bit_hi hv (by omega)]; simp
    · rw [decide_eq_false h1, if_neg (by omega)]; simp
  unfold bit3
  by_cases h1 : m < 32
  · rw [if_pos h1, if_pos h1]; exact key a m lo h1 (by omega)
  · rw [if_neg h1, if_neg h1]
    by_cases h2 : m < 64
    · rw [if_pos h2, if_pos h2]; exact key b (m - 32) _ (by omega) (by omega)
    · rw [if_neg h2, if_neg h2]; exact key c (m - 64) _ (by omega) (by omega)

/-- What was put there is there. -/
theorem bits_put {a b c v lo n : Nat} (ha : a < 2 ^ 32) (hb : b < 2 ^ 32) (hc : c < 2 ^ 32) (hv : v < 2 ^ n) (hn : n ≤ 64) (hl : lo + n ≤ 96) :
    bitsN (putN a v n lo) (putN b v n ((lo : Int) - 32)) (putN c v n ((lo : Int) - 64)) lo n = v := by
  apply Nat.eq_of_testBit_eq
  intro j
  rw [bits_bit (put_lt _ _ _ _ ha) (put_lt _ _ _ _ hb) (put_lt _ _ _ _ hc) hn]
  by_cases hj : j < n
  · rw [decide_eq_true hj, Bool.true_and, put_bits hv _ (by omega), if_pos (by omega)]
    congr 1; omega
  · rw [decide_eq_false hj, Bool.false_and, bit_hi hv (by omega)]

/-- What was there may be put back. -/
theorem put_back {a b c v lo n : Nat} (ha : a < 2 ^ 32) (hb : b < 2 ^ 32) (hc : c < 2 ^ 32) (hv : v < 2 ^ n) (hn : n ≤ 64) :
    putN (putN a v n lo) (bitsN a b c lo n) n lo = a ∧ putN (putN b v n ((lo : Int) - 32)) (bitsN a b c lo n) n ((lo : Int) - 32) = b ∧ putN (putN c v n ((lo : Int) - 64)) (bitsN a b c lo n) n ((lo : Int) - 64) = c := by
  apply bit3_inj (put_lt _ _ _ _ (put_lt _ _ _ _ ha)) (put_lt _ _ _ _ (put_lt _ _ _ _ hb)) (put_lt _ _ _ _ (put_lt _ _ _ _ hc)) ha hb hc
  intro m hm
  rw [put_bits bits_lt m hm]
  by_cases h : lo ≤ m ∧ m < lo + n
  · rw [if_pos h, bits_bit ha hb hc hn, decide_eq_true (by omega), Bool.true_and]
    congr 1; omega
  · rw [if_neg h, put_bits hv m hm, if_neg h]

end Go.Proofs.YtnhidiefchamlaaDoor.words
