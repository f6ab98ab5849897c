/- Decimal digits of a number: plain facts. -/
import Derived.Test.YtnhidiefchamlaaDoorWide
namespace Go.Proofs.YtnhidiefchamlaaDoor.words

/-- The bytes of a number's decimal digits. -/
def decF : Nat → Nat → List Int
  | 0, u => [48 + (u : Int)]
  | k + 1, u => if u < 10 then [48 + (u : Int)] else decF k (u / 10) ++ [48 + ((u % 10 : Nat) : Int)]
def decL (u : Nat) : List Int := decF u u

theorem decF_same : ∀ (k j u : Nat), u ≤ k → u ≤ j → decF k u = decF j u := by
  intro k
  induction k with
  | zero =>
    intro j u h1 h2
    have : u = 0 := by omega
    subst this
    cases j with
    | zero => rfl
    | succ j => simp [decF]
  | succ k ih =>
    intro j u h1 h2
    by_cases h0 : u < 10
    · cases j with
      | zero =>
        have : u = 0 := by omega
        subst this
        simp [decF]
      | succ j => rw [decF, decF, if_pos h0, if_pos h0]
    · obtain ⟨j', rfl⟩ : ∃ j', j = j' + 1 := ⟨j - 1, by omega⟩
      rw [decF, decF, if_neg h0, if_neg h0, ih j' (u / 10) (by omega) (by omega)]
theorem decL_one {u : Nat} (h : u < 10) : decL u = [48 + (u : Int)] := by
  unfold decL
  cases u with
  | zero => rfl
  | succ k => rw [decF, if_pos h]
theorem decL_more {u : Nat} (h : ¬ u < 10) : decL u = decL (u / 10) ++ [48 + ((u % 10 : Nat) : Int)] := by
  obtain ⟨k, rfl⟩ : ∃ k, u = k + 1 := ⟨u - 1, by omega⟩
  unfold decL
  rw [decF, if_neg h, decF_same k _ _ (by omega) (Nat.le_refl _)]

theorem decL_ne (u : Nat) : decL u ≠ [] := by
  by_cases h : u < 10
  · rw [decL_one h]; simp
  · rw [decL_more h]; simp

theorem decL_len (k : Nat) : ∀ u : Nat, u < 10 ^ (k + 1) → 1 ≤ (decL u).length ∧ (decL u).length ≤ k + 1 := by
  induction k with
  | zero => intro u h; rw [decL_one (by omega)]; simp
  | succ k ih =>
    intro u h
    by_cases h1 : u < 10
    · rw [decL_one h1]; simp
    · rw [decL_more h1]
      have := ih (u / 10) (by rw [Nat.pow_succ] at h; omega)
      simp; omega
theorem decL_len29 (u : Nat) (h : (u : Int) < top) : 1 ≤ (decL u).length ∧ (decL u).length ≤ 29 := decL_len 28 u (by unfold top at h; omega)

/-- The number that digits make. -/
def dvalI (l : List Int) : Int := l.foldl (fun n c => n * 10 + (c - 48)) 0
theorem dvalI_snoc (l : List Int) (c : Int) : dvalI (l ++ [c]) = dvalI l * 10 + (c - 48) := by simp [dvalI, List.foldl_append]
theorem decL_val (u : Nat) : dvalI (decL u) = u := by
  induction u using Nat.strongRecOn with
  | _ u ih =>
    by_cases h : u < 10
    · rw [decL_one h]; simp [dvalI]; omega
    · rw [decL_more h, dvalI_snoc, ih (u / 10) (by omega)]; omega
theorem decL_dig (u : Nat) : ∀ c ∈ decL u, 48 ≤ c ∧ c ≤ 57 := by
  induction u using Nat.strongRecOn with
  | _ u ih =>
    by_cases h : u < 10
    · rw [decL_one h]; intro c hc; simp at hc; omega
    · rw [decL_more h]
      intro c hc
      rcases List.mem_append.1 hc with hc | hc
      · exact ih (u / 10) (by omega) c hc
      · simp at hc; omega
theorem decL_head (u : Nat) (h : 0 < u) : (decL u).getD 0 0 ≠ 48 := by
  induction u using Nat.strongRecOn with
  | _ u ih =>
    by_cases h1 : u < 10
    · rw [decL_one h1]; simp; omega
    · rw [decL_more h1]
      have h2 := ih (u / 10) (by omega) (by omega)
      have h3 : decL (u / 10) ≠ [] := by
        intro e
        exact decL_ne _ e
      cases hd : decL (u / 10) with
      | nil => exact absurd hd h3
      | cons x r => rw [hd] at h2; simpa using h2

end Go.Proofs.YtnhidiefchamlaaDoor.words
