/- Decimal digits, as the document's answer makes them. -/
import Derived.Test.YtlianhienbhbgaaDoorIn
import Derived.Test.YtlianhienbhbgaaDoorShowT
import Derived.Test.YtlianhienbhbgaaDoorProg
namespace Go.Proofs.YtlianhienbhbgaaDoor.cents
open Go.RowKit

theorem conv_one (w : World) (z : Int) :
    (convert 57 9 (.slice (some ⟨w.heap.size, 0, none⟩) 1 1)).run Tryd.prog (w.alloc (.cells #[.int .u8 z] 5)) = .ok (.string ⟨#[UInt8.ofNat z.toNat]⟩) (w.alloc (.cells #[.int .u8 z] 5)) := by
  rw [run_convert_bytes_string _ _ _ _ _ _ _ Tryd.underlying57 Tryd.underlying5 Tryd.underlying9, run_bytesToString _ _ _ _ [z] (by simp [loadCells, loadCellsFrom, go_sem])]
  rfl

set_option maxHeartbeats 400000 in
theorem dec_one (n : Int) (w : World) (h0 : 0 ≤ n) (h1 : n < 10) :
    Calls Tryd.prog 18 #[.int .i64 n] w fun e w' => e = .returned (.string ⟨(Lib.decDigits n.toNat).toArray⟩) ∧ Below w.heap.size w w' := by
  rw [Lib.decDigits_one (by omega)]
  have hc := conv_one w (48 + n)
  have he : (48 + n).toNat = 48 + n.toNat := by omega
  rw [he] at hc
  clear he
  generalize UInt8.ofNat (48 + n.toNat) = c at hc ⊢
  go_enter Tryd.func18, Tryd.ntmps18
  go_wp2_with fail
  go_ret
  exact ⟨rfl, (Below.refl _ _).alloc (Nat.le_refl _) _⟩

set_option maxHeartbeats 400000 in
theorem dec_any (k : Nat) : ∀ (n : Int) (w : World), 0 ≤ n → n ≤ k → n ≤ 1000000000000000 →
    Calls Tryd.prog 18 #[.int .i64 n] w fun e w' => e = .returned (.string ⟨(Lib.decDigits n.toNat).toArray⟩) ∧ Below w.heap.size w w' := by
  induction k with
  | zero => intro n w h0 h1 h2; exact dec_one n w h0 (by omega)
  | succ k ih =>
    intro n w h0 h1 h2
    by_cases h10 : n < 10
    · exact dec_one n w h0 h10
    · have hd : Lib.decDigits n.toNat = Lib.decDigits (n / 10).toNat ++ Lib.decDigits (n % 10).toNat := by
        rw [Lib.decDigits, dif_neg (by omega), Lib.decDigits_one (i := (n % 10).toNat) (by omega)]
        rw [show (n / 10).toNat = n.toNat / 10 by omega, show (n % 10).toNat = n.toNat % 10 by omega]
      rw [hd]
      clear hd
      have hl : ∀ u : Nat, u ≤ 1000000000000000 → (Lib.decDigits u).length ≤ 20 := fun u hu => by
        rw [Lib.decDigits_length]; exact ndig_le u hu
      have hl1 := hl (n / 10).toNat (by omega)
      have hl2 := hl (n % 10).toNat (by omega)
      have IH : Hid (∀ (n : Int) (w : World), 0 ≤ n → n ≤ k → n ≤ 1000000000000000 → Calls Tryd.prog 18 #[.int .i64 n] w fun e w' => e = .returned (.string ⟨(Lib.decDigits n.toNat).toArray⟩) ∧ Below w.heap.size w w') := ih
      clear ih hl
      go_enter Tryd.func18, Tryd.ntmps18
      go_wp2_with fail
      refine (IH.out (n / 10) _ (by omega) (by omega) (by omega)).mono ?_
      rintro e w1 ⟨rfl, hb1⟩
      go_wp2_with fail
      refine (IH.out (n % 10) _ (by omega) (by omega) (by omega)).mono ?_
      rintro e w2 ⟨rfl, hb2⟩
      go_wp2_with fail
      go_ret
      exact ⟨rfl, hb1.trans (hb2.mono hb1.size)⟩

end Go.Proofs.YtlianhienbhbgaaDoor.cents
