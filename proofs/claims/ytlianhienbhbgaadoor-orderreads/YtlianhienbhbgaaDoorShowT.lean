/- The text of an amount, as the document says it. -/
import Derived.WalkKit
import Derived.Below
import Derived.WalkSpells
import Derived.WalkLawsBesides
import Derived.Lib.ItoaNum
namespace Go.Proofs.YtlianhienbhbgaaDoor.cents
open Go.RowKit

theorem str_cat (x y : List UInt8) : ((⟨x.toArray⟩ : ByteArray) ++ ⟨y.toArray⟩) = ⟨(x ++ y).toArray⟩ := by
  apply ByteArray.ext
  simp

theorem ndig16 (u : Nat) (h : u ≤ 1000000000000000) : Lib.nDigits u ≤ 16 := by
  have step : ∀ k u, u < 10 ^ (k + 1) → Lib.nDigits u ≤ k + 1 := by
    intro k
    induction k with
    | zero => intro u hu; rw [Lib.nDigits, dif_pos (by omega)]; omega
    | succ k ih =>
      intro u hu
      rw [Lib.nDigits]
      split
      · omega
      · have := ih (u / 10) (by rw [Nat.pow_succ] at hu; omega)
        omega
  exact step 15 u (by omega)

theorem ndig_le (u : Nat) (h : u ≤ 1000000000000000) : Lib.nDigits u ≤ 20 := by
  have := ndig16 u h
  omega

/-- The text of an amount that is not below 0. -/
def showP (m : Int) : List UInt8 := Lib.decDigits (m / 100).toNat ++ [46] ++ Lib.decDigits (m / 10 % 10).toNat ++ Lib.decDigits (m % 10).toNat
/-- What P1.4 says. -/
def showT (n : Int) : List UInt8 := if n < 0 then 45 :: showP (-n) else showP n

theorem dec_len (u : Nat) (hu : u ≤ 1000000000000000) : (Lib.decDigits u).length ≤ 20 := by
  rw [Lib.decDigits_length]; exact ndig_le u hu

theorem ret_str {x y : ByteArray} {k : Int} (h : x = y) : Ending.returned (.tuple #[.string x, .int .i64 k]) = .returned (.tuple #[.string y, .int .i64 k]) := by rw [h]

end Go.Proofs.YtlianhienbhbgaaDoor.cents
