/- A tariff that grows, step by step: plain facts. -/
import Derived.Test.YtlolippocnngcabTfN
namespace Go.Proofs.Ytlolippocnngcab.tar
set_option linter.unusedVariables false

theorem getD_snoc (Z : List Du) (r : Du) (i : Nat) : (Z ++ [r]).getD i du0 = if i < Z.length then Z.getD i du0 else if i = Z.length then r else du0 := by
  by_cases h : i < Z.length
  · rw [if_pos h]; simp [List.getD, List.getElem?_append_left h]
  · rw [if_neg h]
    by_cases h2 : i = Z.length
    · subst h2; simp [List.getD]
    · rw [if_neg h2]
      have : (Z ++ [r])[i]? = none := List.getElem?_eq_none (by simp; omega)
      simp [List.getD, this]
/-- k steps that rise as far as up. -/
structure Grow (Z : List Du) (k : Nat) (up : Int) : Prop where
  len : Z.length = k
  fit : ∀ i, i < k → (1 ≤ (Z.getD i du0).a ∧ (Z.getD i du0).a ≤ up) ∧ 1 ≤ (Z.getD i du0).b ∧ (Z.getD i du0).b ≤ 100000
  rise : ∀ i, 1 ≤ i → i < k → (Z.getD (i - 1) du0).a < (Z.getD i du0).a
  low : 0 ≤ up
  top : up ≤ (k : Int) * 1000000
theorem Grow.zero : Grow [] 0 0 := ⟨rfl, fun i hi => absurd hi (Nat.not_lt_zero _), fun i _ hi => absurd hi (Nat.not_lt_zero _), by decide, by decide⟩
theorem Grow.step {Z : List Du} {k : Nat} {up d p : Int} (h : Grow Z k up) (d1 : 1 ≤ d) (d2 : d ≤ 1000000) (p1 : 1 ≤ p) (p2 : p ≤ 100000) : Grow (Z ++ [⟨up + d, p⟩]) (k + 1) (up + d) := by
  have h0 := h.low
  refine ⟨by rw [List.length_append, h.len]; rfl, fun i hi => ?_, fun i h1 hi => ?_, by omega, ?_⟩
  · rw [getD_snoc, h.len]
    by_cases e : i < k
    · rw [if_pos e]
      have := h.fit i e
      exact ⟨⟨this.1.1, by omega⟩, this.2⟩
    · rw [if_neg e, if_pos (by omega)]
      exact ⟨⟨by show 1 ≤ up + d; omega, Int.le_refl _⟩, p1, p2⟩
  · rw [getD_snoc, getD_snoc, h.len]
    by_cases e : i < k
    · rw [if_pos (by omega), if_pos e]; exact h.rise i h1 e
    · rw [if_pos (by omega), if_neg e, if_pos (by omega)]
      have := (h.fit (i - 1) (by omega)).1.2
      show _ < up + d
      omega
  · have := h.top; omega
theorem Grow.right {Z : List Du} {k : Nat} {up p : Int} (h : Grow Z k up) (hk : k ≤ 7) (p1 : 1 ≤ p) (p2 : p ≤ 100000) : Right (Z ++ [⟨10000000, p⟩]) := by
  have h0 := h.low
  have h1 := h.top
  have hl : (Z ++ [(⟨10000000, p⟩ : Du)]).length = k + 1 := by rw [List.length_append, h.len]; rfl
  refine ⟨⟨by rw [hl]; omega, by rw [hl]; omega⟩, fun i hi => ?_, fun i h1 hi => ?_, ?_⟩
  · rw [hl] at hi
    rw [getD_snoc, h.len]
    by_cases e : i < k
    · rw [if_pos e]
      have := h.fit i e
      exact ⟨⟨this.1.1, by omega⟩, this.2⟩
    · rw [if_neg e, if_pos (by omega)]
      exact ⟨⟨(by decide : (1 : Int) ≤ 10000000), Int.le_refl _⟩, p1, p2⟩
  · rw [hl] at hi
    rw [getD_snoc, getD_snoc, h.len]
    by_cases e : i < k
    · rw [if_pos (by omega), if_pos e]; exact h.rise i h1 e
    · rw [if_pos (by omega), if_neg e, if_pos (by omega)]
      have := (h.fit (i - 1) (by omega)).1.2
      show _ < (10000000 : Int)
      omega
  · unfold Ends
    rw [hl, show k + 1 - 1 = k by omega, getD_snoc, h.len, if_neg (by omega), if_pos rfl]

end Go.Proofs.Ytlolippocnngcab.tar
