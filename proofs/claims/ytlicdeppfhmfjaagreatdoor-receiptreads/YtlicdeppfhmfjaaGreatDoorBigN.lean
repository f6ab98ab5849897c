/- Numbers of any size as lists of words, the least first: plain facts. -/
import Derived.Test.YtlicdeppfhmfjaaGreatDoorWide
namespace Go.Proofs.YtlicdeppfhmfjaaGreatDoor.words

/-- The number that words make. -/
def nv : List Nat → Nat
  | [] => 0
  | x :: l => x + 4294967296 * nv l
/-- A number's words, without a nought at the end. -/
def digF : Nat → Nat → List Nat
  | 0, _ => []
  | k + 1, m => if m = 0 then [] else (m % 4294967296) :: digF k (m / 4294967296)
def dig (m : Nat) : List Nat := digF m m

theorem digF_same : ∀ (k j m : Nat), m ≤ k → m ≤ j → digF k m = digF j m := by
  intro k
  induction k with
  | zero =>
    intro j m h1 h2
    have : m = 0 := by omega
    subst this
    cases j with
    | zero => rfl
    | succ j => simp [digF]
  | succ k ih =>
    intro j m h1 h2
    by_cases h0 : m = 0
    · subst h0
      cases j with
      | zero => simp [digF]
      | succ j => simp [digF]
    · obtain ⟨j', rfl⟩ : ∃ j', j = j' + 1 := ⟨j - 1, by omega⟩
      rw [digF, digF, if_neg h0, if_neg h0, ih j' (m / 4294967296) (by omega) (by omega)]
theorem dig_zero : dig 0 = [] := rfl
theorem dig_pos {m : Nat} (h : m ≠ 0) : dig m = (m % 4294967296) :: dig (m / 4294967296) := by
  obtain ⟨k, rfl⟩ : ∃ k, m = k + 1 := ⟨m - 1, by omega⟩
  unfold dig
  rw [digF, if_neg h, digF_same k _ _ (by omega) (Nat.le_refl _)]
theorem nv_dig (m : Nat) : nv (dig m) = m := by
  induction m using Nat.strongRecOn with
  | _ m ih =>
    by_cases h : m = 0
    · subst h; rw [dig_zero]; rfl
    · rw [dig_pos h, nv, ih (m / 4294967296) (by omega)]; omega
theorem dig_lt (m : Nat) : ∀ x ∈ dig m, x < 4294967296 := by
  induction m using Nat.strongRecOn with
  | _ m ih =>
    by_cases h : m = 0
    · subst h; rw [dig_zero]; intro x hx; cases hx
    · rw [dig_pos h]
      intro x hx
      rcases List.mem_cons.1 hx with rfl | hx
      · omega
      · exact ih (m / 4294967296) (by omega) x hx
theorem dig_nil {m : Nat} (h : dig m = []) : m = 0 := by
  by_cases h0 : m = 0
  · exact h0
  · rw [dig_pos h0] at h; cases h

theorem getD_cons_succ (x : Nat) (r : List Nat) (i : Nat) : (x :: r).getD (i + 1) 0 = r.getD i 0 := by simp [List.getD]

/-- What is left of words when the noughts at their end are taken off. -/
theorem trim_dig : ∀ (l : List Nat) (n : Nat), (∀ x ∈ l, x < 4294967296) → n ≤ l.length → (∀ i, n ≤ i → i < l.length → l.getD i 0 = 0) → (n = 0 ∨ l.getD (n - 1) 0 ≠ 0) → l.take n = dig (nv l)
  | [], n, _, hn, _, _ => by
    have : n = 0 := by simpa using hn
    subst this; rw [nv, dig_zero]; rfl
  | x :: r, 0, hlt, _, hz, _ => by
    have hx : x = 0 := by simpa using hz 0 (Nat.le_refl _) (by simp)
    have hr := trim_dig r 0 (fun y hy => hlt y (List.mem_cons_of_mem _ hy)) (Nat.zero_le _) (fun i _ hi => by
      have := hz (i + 1) (Nat.zero_le _) (by simp; omega)
      rwa [getD_cons_succ] at this) (.inl rfl)
    have h0 : nv r = 0 := dig_nil (by rw [← hr]; rfl)
    rw [nv, hx, h0, dig_zero]; rfl
  | x :: r, k + 1, hlt, hn, hz, hne => by
    have hx := hlt x (List.mem_cons_self ..)
    have hr := trim_dig r k (fun y hy => hlt y (List.mem_cons_of_mem _ hy)) (by simp at hn; omega) (fun i hi hi2 => by
      have := hz (i + 1) (by omega) (by simp; omega)
      rwa [getD_cons_succ] at this) (by
      by_cases hk : k = 0
      · exact .inl hk
      · right
        rcases hne with h | h
        · omega
        · have e : k + 1 - 1 = (k - 1) + 1 := by omega
          rw [e, getD_cons_succ] at h
          exact h)
    have hnz : nv (x :: r) ≠ 0 := by
      intro h0
      rw [nv] at h0
      rcases hne with h | h
      · omega
      · by_cases hk : k = 0
        · subst hk; simp at h; omega
        · have h1 : nv r = 0 := by omega
          rw [h1, dig_zero] at hr
          have h2 : r.length = 0 ∨ k = 0 := by
            have := congrArg List.length hr
            simp only [List.length_take, List.length_nil] at this
            omega
          simp at hn; omega
    rw [List.take_succ_cons, hr, dig_pos hnz]
    congr 1
    · rw [nv]; omega
    · congr 1; rw [nv]; omega

theorem dig_inj {m n : Nat} (h : dig m = dig n) : m = n := by rw [← nv_dig m, h, nv_dig]

theorem dig_len {m : Nat} : ∀ k : Nat, m < 4294967296 ^ k → (dig m).length ≤ k := by
  intro k
  induction k generalizing m with
  | zero => intro h; have : m = 0 := by simpa using h
            subst this; rw [dig_zero]; simp
  | succ k ih =>
    intro h
    by_cases h0 : m = 0
    · subst h0; rw [dig_zero]; simp
    · rw [dig_pos h0]
      have := ih (m := m / 4294967296) (by rw [Nat.pow_succ] at h; exact Nat.div_lt_of_lt_mul (by rw [Nat.mul_comm]; exact h))
      simp; omega

/-- A word ahead. -/
theorem dig_shift (m x : Nat) (hx : x < 4294967296) (h : m ≠ 0 ∨ x ≠ 0) : dig (m * 4294967296 + x) = x :: dig m := by
  rw [dig_pos (by omega)]
  congr 1
  · omega
  · congr 1; omega

end Go.Proofs.YtlicdeppfhmfjaaGreatDoor.words
