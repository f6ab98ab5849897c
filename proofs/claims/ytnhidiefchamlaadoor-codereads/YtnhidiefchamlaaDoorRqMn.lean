/- Numbers of meters, and numbers in decimal: plain facts. -/
import Derived.Test.YtnhidiefchamlaaDoorRcN
import Derived.Lib.AtoiAll
namespace Go.Proofs.YtnhidiefchamlaaDoor.rcp
open Go.Proofs.YtnhidiefchamlaaDoor.check (digitR goodR flawR allD)
open Go.Proofs.YtnhidiefchamlaaDoor.token (dv dv_inj dv_lt dv_snoc)
set_option linter.unusedVariables false
set_option linter.unusedSimpArgs false

theorem allD_same (l : List UInt8) : cents.allD l = allD l := rfl
/-- What Atoi gives back, whatever the text. -/
def atoiV (l : List UInt8) : Int := match Lib.atoiAll l with
  | .ok v => v
  | .range => Lib.atoiSat l
  | _ => 0
theorem parse_digits : ∀ (l : List UInt8) (acc : Nat), allD l = true → (acc + 1) * 10 ^ l.length ≤ 1000000000000000000 → Lib.parseUint10 acc l = .ok (l.foldl (fun n c => n * 10 + (c.toNat - 48)) acc) := by
  intro l
  induction l with
  | nil => intro acc _ _; rfl
  | cons c r ih =>
    intro acc hd hb
    have hd' : check.isD c = true ∧ allD r = true := by simpa [allD] using hd
    have hc : 48 ≤ c.toNat ∧ c.toNat ≤ 57 := by simpa [check.isD] using hd'.1
    have hp : 0 < 10 ^ r.length := Nat.pow_pos (by decide)
    have hb' : (acc * 10 + 10) * 10 ^ r.length ≤ 1000000000000000000 := by
      rw [List.length_cons, Nat.pow_succ, Nat.mul_comm (10 ^ r.length) 10, ← Nat.mul_assoc] at hb
      rw [show acc * 10 + 10 = (acc + 1) * 10 by omega]
      exact hb
    have h1 : acc * 10 + 10 ≤ 1000000000000000000 := Nat.le_trans (Nat.le_mul_of_pos_right _ hp) hb'
    unfold Lib.parseUint10
    rw [if_pos hc, if_neg (by omega), if_neg (by omega), List.foldl_cons]
    refine ih _ hd'.2 (Nat.le_trans (Nat.mul_le_mul_right _ ?_) hb')
    omega
theorem atoi_of {c : UInt8} {r : List UInt8} {u : Nat} (h1 : ¬ (c.toNat = 43 ∨ c.toNat = 45)) (hm : Lib.parseMag (c :: r) = .ok u) (hu : u < 9223372036854775808) : Lib.atoiAll (c :: r) = .ok (u : Int) := by
  unfold Lib.atoiAll
  dsimp only
  rw [if_neg h1]
  generalize Lib.parseMag (c :: r) = x at hm ⊢
  subst hm
  dsimp only
  rw [if_neg (by omega), if_neg (by omega), if_neg (by omega)]
theorem atoi_digits {l : List UInt8} (h : allD l = true) (h0 : l ≠ []) (h1 : l.length ≤ 18) : Lib.atoiAll l = .ok ((dv l : Nat) : Int) := by
  have hp := parse_digits l 0 h (by
    have := Nat.pow_le_pow_right (n := 10) (by decide) h1
    simpa using this)
  have hlt := dv_lt l h
  have h18 : dv l < 1000000000000000000 := Nat.lt_of_lt_of_le hlt (by simpa using Nat.pow_le_pow_right (n := 10) (by decide) h1)
  cases l with
  | nil => exact absurd rfl h0
  | cons c r =>
    have hd' : check.isD c = true ∧ allD r = true := by simpa [allD] using h
    have hc : 48 ≤ c.toNat ∧ c.toNat ≤ 57 := by simpa [check.isD] using hd'.1
    have hm : Lib.parseMag (c :: r) = .ok (dv (c :: r)) := by
      unfold Lib.parseMag
      rw [if_neg (by simp)]
      exact hp
    exact atoi_of (by omega) hm (by omega)
theorem atoiV_bounds (l : List UInt8) : -9223372036854775808 ≤ atoiV l ∧ atoiV l ≤ 9223372036854775807 := by
  unfold atoiV
  cases h : Lib.atoiAll l with
  | ok v =>
    cases l with
    | nil => cases h
    | cons c r =>
      unfold Lib.atoiAll at h
      simp only at h
      split at h
      · cases h
      · cases h
      · split at h
        · cases h
        · split at h
          · cases h
          · injection h with h
            subst h
            dsimp only
            split <;> omega
  | range => dsimp only; unfold Lib.atoiSat; split <;> omega
  | _ => dsimp only; omega
theorem pad_facts : ∀ k, k < 50 → (pad k 10).length = 10 ∧ allD (pad k 10) = true ∧ dv (pad k 10) = k := by decide +kernel
theorem last_one : ∀ k, k < 50 → ∀ d, d < 10 → goodR (pad k 10 ++ [(48 + d).toUInt8]) = true → pad k 10 ++ [(48 + d).toUInt8] = numL k := by decide +kernel
theorem named_of {l : List UInt8} (h : l.length = 11) (hd : allD l = true) (hg : goodR l = true) (hk : dv (l.take 10) < 50) : Named l (dv (l.take 10)) := by
  refine ⟨hk, ?_⟩
  have hdt : allD (l.take 10) = true := List.all_eq_true.2 fun c hc => List.all_eq_true.1 hd c (List.mem_of_mem_take hc)
  have hlt : (l.take 10).length = 10 := by rw [List.length_take]; omega
  generalize hkk : dv (l.take 10) = k at hk ⊢
  obtain ⟨p1, p2, p3⟩ := pad_facts k hk
  have e : l.take 10 = pad k 10 := dv_inj 10 _ _ hlt p1 hdt p2 (by rw [hkk, p3])
  have hl10 : 10 < l.length := by omega
  have e2 : l = l.take 10 ++ [l[10]] := by
    have := List.take_succ_eq_append_getElem hl10
    rw [List.take_of_length_le (by omega)] at this
    exact this
  have hc : check.isD l[10] = true := List.all_eq_true.1 hd _ (List.getElem_mem hl10)
  have hc' : 48 ≤ l[10].toNat ∧ l[10].toNat ≤ 57 := by simpa [check.isD] using hc
  obtain ⟨d, hd10, hdd⟩ : ∃ d, d < 10 ∧ l[10] = (48 + d).toUInt8 := ⟨l[10].toNat - 48, by omega, by rw [show 48 + (l[10].toNat - 48) = l[10].toNat by omega]; simp⟩
  rw [e2, e, hdd] at hg
  rw [← last_one k hk d hd10 hg, ← hdd, ← e, ← e2]
theorem named_val {l : List UInt8} {k : Nat} (h : Named l k) : dv (l.take 10) = k := by
  rw [← h.2]; exact (num_all k h.1).2.2.2.1

end Go.Proofs.YtnhidiefchamlaaDoor.rcp
