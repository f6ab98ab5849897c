/- Disks: how much they tell. -/
import Derived.Test.YtfllkhlnnihndaaDkN
namespace Go.Proofs.Ytfllkhlnnihndaa.disk
open Go.Proofs.Ytfllkhlnnihndaa.cell
set_option maxRecDepth 100000
set_option linter.unusedVariables false

theorem it_short (c : List Int) (k : Nat) : ∀ z ∈ (itD c k).1, z.length ≤ 64 := by
  induction k with
  | zero => intro z hz; cases hz
  | succ k ih =>
    intro z hz
    by_cases h : 0 < lenAt c (itD c k).2
    · rw [it_live h] at hz
      rcases List.mem_append.1 hz with hz | hz
      · exact ih z hz
      · obtain rfl := List.mem_singleton.1 hz
        obtain ⟨_, _, p1, _⟩ := len_pos h
        unfold recAt
        rw [List.length_take]
        omega
    · rw [it_dead h 1] at hz
      exact ih z hz
theorem it_count (c : List Int) (k : Nat) : (itD c k).1.length ≤ (itD c k).2 := by
  induction k with
  | zero => exact Nat.le_refl _
  | succ k ih =>
    by_cases h : 0 < lenAt c (itD c k).2
    · rw [it_live h]
      show ((itD c k).1 ++ [_]).length ≤ (itD c k).2 + _ + 1
      rw [List.length_append]
      simp only [List.length_cons, List.length_nil]
      omega
    · rw [it_dead h 1]; exact ih
theorem rep_few {c : List Int} {o : List (List Int)} {x f : Int} (h : RepIs c o x f) : o.length ≤ 2048 ∧ ∀ z ∈ o, z.length ≤ 64 := by
  rcases h with ⟨_, rfl, _⟩ | ⟨_, _, rfl, _⟩ | ⟨hm, _, rfl, _⟩
  · exact ⟨Nat.zero_le _, fun z hz => by cases hz⟩
  · exact ⟨Nat.zero_le _, fun z hz => by cases hz⟩
  · exact ⟨Nat.le_trans (it_count c _) (Nat.le_trans (it_bound c _).1 hm.2), it_short c _⟩
theorem app_few {c r : List Int} {l : List Wr} {f : Int} (h : AppIs c r l f) : l.length ≤ 66 := by
  rcases h with ⟨_, rfl, _⟩ | ⟨_, _, rfl, _⟩ | ⟨_, _, _, rfl, _⟩ | ⟨_, _, _, _, rfl, _⟩ | ⟨hr, _, _, _, rfl, _⟩
  · exact Nat.zero_le _
  · exact Nat.zero_le _
  · exact Nat.zero_le _
  · exact Nat.zero_le _
  · rw [app_len]; have := hr.2; split <;> omega

end Go.Proofs.Ytfllkhlnnihndaa.disk
