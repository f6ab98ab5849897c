/- What & and | make of words, in natural numbers. -/
import Derived.Test.YtlicdeppfhmfjabGreatDoorOpenW
import Derived.Laws.Bits64
namespace Go.Proofs.YtlicdeppfhmfjabGreatDoor.words

theorem ofInt_nat (k a : Nat) (h : a < 2 ^ k) : (BitVec.ofInt k (a : Int)).toNat = a := by
  rw [BitVec.ofInt_natCast, BitVec.toNat_ofNat]; exact Nat.mod_eq_of_lt h
theorem wrap_u32 (n : Int) : IntKind.u32.wrap n = n % 4294967296 := by simp [IntKind.wrap, IntKind.bits, IntKind.signed]

theorem or64 (a b : Nat) (ha : a < 2 ^ 64) (hb : b < 2 ^ 64) : bits .or .u64 (a : Int) (b : Int) = ((a ||| b : Nat) : Int) := by
  have h := Nat.or_lt_two_pow ha hb
  show IntKind.u64.wrap ((BitVec.ofInt 64 (a : Int) ||| BitVec.ofInt 64 (b : Int)).toNat : Int) = _
  rw [BitVec.toNat_or, ofInt_nat 64 a ha, ofInt_nat 64 b hb, IntKind.wrap_u64]
  omega
theorem and64 (a b : Nat) (ha : a < 2 ^ 64) (hb : b < 2 ^ 64) : bits .and .u64 (a : Int) (b : Int) = ((a &&& b : Nat) : Int) := by
  have h : a &&& b < 2 ^ 64 := Nat.and_lt_two_pow a hb
  show IntKind.u64.wrap ((BitVec.ofInt 64 (a : Int) &&& BitVec.ofInt 64 (b : Int)).toNat : Int) = _
  rw [BitVec.toNat_and, ofInt_nat 64 a ha, ofInt_nat 64 b hb, IntKind.wrap_u64]
  omega
theorem or32 (a b : Nat) (ha : a < 2 ^ 32) (hb : b < 2 ^ 32) : bits .or .u32 (a : Int) (b : Int) = ((a ||| b : Nat) : Int) := by
  have h := Nat.or_lt_two_pow ha hb
  show IntKind.u32.wrap ((BitVec.ofInt 32 (a : Int) ||| BitVec.ofInt 32 (b : Int)).toNat : Int) = _
  rw [BitVec.toNat_or, ofInt_nat 32 a ha, ofInt_nat 32 b hb, wrap_u32]
  omega
theorem andNot32 (a b : Nat) (ha : a < 2 ^ 32) (hb : b < 2 ^ 32) : bits .andNot .u32 (a : Int) (b : Int) = ((a &&& (2 ^ 32 - 1 - b) : Nat) : Int) := by
  have h : a &&& (2 ^ 32 - 1 - b) < 2 ^ 32 := Nat.and_lt_two_pow a (by omega)
  show IntKind.u32.wrap ((BitVec.ofInt 32 (a : Int) &&& ~~~ BitVec.ofInt 32 (b : Int)).toNat : Int) = _
  rw [BitVec.toNat_and, BitVec.toNat_not, ofInt_nat 32 a ha, ofInt_nat 32 b hb, wrap_u32]
  omega

/-- Two words, the greater one shifted up. -/
theorem or_words (n x : Int) (n0 : 0 ≤ n) (n1 : n < 4294967296) (x0 : 0 ≤ x) (x1 : x < 4294967296) : bits .or .u64 (n * 4294967296) x = n * 4294967296 + x := by
  obtain ⟨p, rfl⟩ := Int.eq_ofNat_of_zero_le n0
  obtain ⟨q, rfl⟩ := Int.eq_ofNat_of_zero_le x0
  have e : ((p : Int) * 4294967296) = ((p * 4294967296 : Nat) : Int) := by simp
  rw [e, or64 _ _ (by omega) (by omega)]
  have h := Nat.shiftLeft_add_eq_or_of_lt (show q < 2 ^ 32 by omega) p
  rw [Nat.shiftLeft_eq] at h
  have h2 : p * 4294967296 ||| q = p * 4294967296 + q := h.symm
  rw [h2]; simp

end Go.Proofs.YtlicdeppfhmfjabGreatDoor.words
