/- Decimal digits of great numbers, as the document makes them. -/
import Derived.Test.YtnhidiefchamlaaDoorCdN
import Derived.Test.YtnhidiefchamlaaDoorDec
import Derived.Test.YtnhidiefchamlaaDoorProg
import Derived.WalkKit
import Derived.Deep.DeepCutAuto
namespace Go.Proofs.YtnhidiefchamlaaDoor.cod
open Go.Proofs.YtnhidiefchamlaaDoor.met (Mt)
open Go.Proofs.YtnhidiefchamlaaDoor.rcp (pad)
open Go.RowKit
set_option maxRecDepth 100000
set_option linter.unusedVariables false
set_option linter.unusedSimpArgs false

set_option maxHeartbeats 400000 in
theorem dec_big (k : Nat) : ∀ (n : Int) (w : World), 0 ≤ n → n ≤ k → n < 1000000000000000000 →
    Calls Tryd.prog 35 #[.int .i64 n] w fun e w' => e = .returned (.string ⟨(Lib.decDigits n.toNat).toArray⟩) ∧ Below w.heap.size w w' := by
  induction k with
  | zero => intro n w h0 h1 h2; exact cents.dec_one n w h0 (by omega)
  | succ k ih =>
    intro n w h0 h1 h2
    by_cases h10 : n < 10
    · exact cents.dec_one n w h0 h10
    · have hd : Lib.decDigits n.toNat = Lib.decDigits (n / 10).toNat ++ Lib.decDigits (n % 10).toNat := by
        rw [Lib.decDigits, dif_neg (by omega), Lib.decDigits_one (i := (n % 10).toNat) (by omega)]
        rw [show (n / 10).toNat = n.toNat / 10 by omega, show (n % 10).toNat = n.toNat % 10 by omega]
      rw [hd]
      clear hd
      have hl : ∀ u : Nat, u < 1000000000000000000 → (Lib.decDigits u).length ≤ 18 := fun u hu => dec_len_lt 17 u (by simpa using hu)
      have hl1 := hl (n / 10).toNat (by omega)
      have hl2 := hl (n % 10).toNat (by omega)
      have IH : Hid (∀ (n : Int) (w : World), 0 ≤ n → n ≤ k → n < 1000000000000000000 → Calls Tryd.prog 35 #[.int .i64 n] w fun e w' => e = .returned (.string ⟨(Lib.decDigits n.toNat).toArray⟩) ∧ Below w.heap.size w w') := ih
      clear ih hl
      go_enter Tryd.func35, Tryd.ntmps35
      go_wp2_with fail
      refine (IH.out (n / 10) _ (by omega) (by omega) (by omega)).mono ?_
      rintro e w1 ⟨rfl, hb1⟩
      go_wp2_with fail
      refine (IH.out (n % 10) _ (by omega) (by omega) (by omega)).mono ?_
      rintro e w2 ⟨rfl, hb2⟩
      go_wp2_with fail
      go_ret
      exact ⟨rfl, hb1.trans (hb2.mono hb1.size)⟩

set_option maxHeartbeats 1000000 in
theorem padded_big (n : Nat) (k : Nat) (w : World) (hn : n < 1000000000000000000) (hk : k ≤ 20) : Calls Tryd.prog 20 #[.int .i64 (n : Int), .int .i64 (k : Int)] w fun e w' => e = .returned (.string ⟨(pad n k).toArray⟩) ∧ Below w.heap.size w w' := by
  have HD : Hid (Calls Tryd.prog 35 #[.int .i64 (n : Int)] w fun e w' => e = .returned (.string ⟨(Lib.decDigits n).toArray⟩) ∧ Below w.heap.size w w') := by
    have h := dec_big n (n : Int) w (by omega) (by omega) (by omega)
    rw [Int.toNat_natCast] at h
    exact h
  have hl : (Lib.decDigits n).length ≤ 18 := dec_len_lt 17 n (by simpa using hn)
  have HP : Hid (pad n k = List.replicate (k - (Lib.decDigits n).length) 48 ++ Lib.decDigits n) := rfl
  generalize Lib.decDigits n = D at *
  go_enter Tryd.func20, Tryd.ntmps20
  go_wp2_with fail
  refine HD.out.mono ?_
  rintro e w1 ⟨rfl, hb1⟩
  clear HD
  go_wp2_with fail
  go_loopw [5] (fun v wr => ∃ j : Nat, (j = 0 ∨ j + D.length ≤ k) ∧ v = .string ⟨(List.replicate j 48 ++ D).toArray⟩ ∧ wr = w1) (fun v _ => k - (match v with | .string s => s.size | _ => 0))
  case atStart => exact ⟨0, .inl rfl, rfl, rfl⟩
  case round =>
    obtain ⟨j, hj, rfl, hwr⟩ := hrel
    subst wr
    have hsz : (List.replicate j (48 : UInt8) ++ D).length = j + D.length := by simp
    have hj20 : j + D.length ≤ 20 := by omega
    have HN : Hid ((⟨#[48]⟩ : ByteArray) ++ ⟨(List.replicate j 48 ++ D).toArray⟩ = ⟨(List.replicate (j + 1) 48 ++ D).toArray⟩) := by
      show _ = _
      have := cents.str_cat [48] (List.replicate j 48 ++ D)
      rw [List.replicate_succ]
      exact this
    have HSZ : Hid (ByteArray.size ⟨(List.replicate j (48 : UInt8) ++ D).toArray⟩ = j + D.length) := by show (List.replicate j (48 : UInt8) ++ D).toArray.size = _; rw [List.size_toArray]; exact hsz
    have HSZ2 : Hid (ByteArray.size ⟨(List.replicate (j + 1) (48 : UInt8) ++ D).toArray⟩ = j + 1 + D.length) := by show (List.replicate (j + 1) (48 : UInt8) ++ D).toArray.size = _; rw [List.size_toArray]; simp
    have HE : Hid (¬ j + D.length < k → List.replicate j (48 : UInt8) ++ D = pad n k) := fun h => by
      rw [HP.out]
      have : j = k - D.length := by omega
      rw [this]
    clear HP
    by_cases hlt : j + D.length < k
    · have hd : decide (((j + D.length : Nat) : Int) < (k : Int)) = true := by simp; omega
      clear HE hsz
      generalize hS : (⟨(List.replicate j (48 : UInt8) ++ D).toArray⟩ : ByteArray) = S at *
      have hs := HSZ.out
      generalize hT : (⟨(List.replicate (j + 1) (48 : UInt8) ++ D).toArray⟩ : ByteArray) = T at *
      clear hS
      go_wp2_with fail
      go_roundw
      case rel => exact ⟨j + 1, .inr (by omega), by rw [HN.out, hT], by first | rfl | trivial⟩
      case measure => rw [HN.out]; show k - T.size < k - S.size; rw [HSZ.out, HSZ2.out]; omega
    · have hd : decide (((j + D.length : Nat) : Int) < (k : Int)) = false := by simp; omega
      have he := HE.out hlt
      have hs := HSZ.out
      rw [he] at hs ⊢
      clear HE HN HSZ HSZ2 hsz he
      generalize hS : (⟨(pad n k).toArray⟩ : ByteArray) = S at *
      go_wp2_with fail
      go_ret
      exact ⟨by rw [hS]; rfl, hb1⟩


end Go.Proofs.YtnhidiefchamlaaDoor.cod
