/- Why a token may not be: plain facts. -/
import Derived.Test.YtnhidiefchamlaaDoorTkN
namespace Go.Proofs.YtnhidiefchamlaaDoor.token

def hasI (lo hi n : Int) : Bool := decide (lo ≤ n) && decide (n ≤ hi)
def amLo (c : Int) : Int := if c = 0 then 1 else if c = 1 then 0 else if c = 2 then 1 else 0
def amHi (c : Int) : Int := if c = 0 then 2097151 else if c = 1 then 0 else if c = 2 then 15 else 0
/-- Why it may not be (P4.1). -/
def flawT (c i a t : Int) : Int := if c < 0 ∨ 3 < c then 9 else if hasI 1 1048575 i && (hasI (amLo c) (amHi c) a && hasI 0 65535 t) then 0 else 2

theorem flawT_class {c i a t : Int} (h : c < 0 ∨ 3 < c) : flawT c i a t = 9 := by unfold flawT; rw [if_pos h]
theorem flawT_in {c i a t : Int} (h : ¬ (c < 0 ∨ 3 < c)) : flawT c i a t = if hasI 1 1048575 i && (hasI (amLo c) (amHi c) a && hasI 0 65535 t) then 0 else 2 := by unfold flawT; rw [if_neg h]
theorem flawT_three (c i a t : Int) : flawT c i a t = 0 ∨ flawT c i a t = 2 ∨ flawT c i a t = 9 := by
  unfold flawT; split
  · exact .inr (.inr rfl)
  · split
    · exact .inl rfl
    · exact .inr (.inl rfl)
theorem hasI_yes {lo hi n : Int} : hasI lo hi n = true ↔ lo ≤ n ∧ n ≤ hi := by simp [hasI]
theorem flaw_tok {k : Tok} : flawT k.c k.i k.a k.t = 0 ↔ k.ok := by
  rw [← okB_ok]
  unfold flawT okB hasI amLo amHi
  rcases (by omega : k.c = 0 ∨ k.c = 1 ∨ k.c = 2 ∨ k.c = 3 ∨ 4 ≤ k.c) with h | h | h | h | h
  · simp [h]; omega
  · simp [h]; omega
  · simp [h]; omega
  · simp [h]; omega
  · have h1 : (3 : Int) < (k.c : Int) := by omega
    have h2 : ¬ k.c ≤ 3 := by omega
    simp [h1, h2]
/-- A token with no flaw is one of natural numbers. -/
theorem flaw_ok {c i a t : Int} (h : flawT c i a t = 0) : ∃ k : Tok, k.ok ∧ c = k.c ∧ i = k.i ∧ a = k.a ∧ t = k.t := by
  have hc : ¬ (c < 0 ∨ 3 < c) := by intro h0; rw [flawT_class h0] at h; cases h
  have h2 := h
  rw [flawT_in hc] at h2
  split at h2
  · rename_i h3
    simp only [Bool.and_eq_true, hasI_yes] at h3
    have h4 : 0 ≤ a := by
      have h5 := h3.2.1.1
      unfold amLo at h5
      split at h5
      · omega
      · split at h5
        · omega
        · split at h5 <;> omega
    obtain ⟨c', rfl⟩ := Int.eq_ofNat_of_zero_le (show 0 ≤ c by omega)
    obtain ⟨i', rfl⟩ := Int.eq_ofNat_of_zero_le (show 0 ≤ i by omega)
    obtain ⟨a', rfl⟩ := Int.eq_ofNat_of_zero_le h4
    obtain ⟨t', rfl⟩ := Int.eq_ofNat_of_zero_le (show 0 ≤ t by omega)
    exact ⟨⟨c', i', a', t'⟩, flaw_tok.1 h, rfl, rfl, rfl, rfl⟩
  · cases h2

end Go.Proofs.YtnhidiefchamlaaDoor.token
