/- Oracles: plain facts. -/
namespace Go.Proofs.YtnhidiefchamlaaDoor.ora

/-- A pair: whose body, and its tag. -/
structure Pr where
  m : Int
  r : Int
  b : Int
  t : Int
def pr0 : Pr := ⟨0, 0, 0, 0⟩
/-- Is it this meter's, under this revision, and of this body? -/
def Pr.key (p : Pr) (m r b : Int) : Prop := p.m = m ∧ p.r = r ∧ p.b = b
/-- The place of what was tagged: the first. -/
structure At (l : List Pr) (m r b : Int) (i : Nat) : Prop where
  lt : i < l.length
  is : (l.getD i pr0).key m r b
  first : ∀ j, j < i → ¬ (l.getD j pr0).key m r b
def No (l : List Pr) (m r b : Int) : Prop := ∀ j, j < l.length → ¬ (l.getD j pr0).key m r b
theorem At.one {l : List Pr} {m r b : Int} {i j : Nat} (h : At l m r b i) (h' : At l m r b j) : i = j := by
  rcases Nat.lt_trichotomy i j with h1 | h1 | h1
  · exact absurd h.is (h'.first i h1)
  · exact h1
  · exact absurd h'.is (h.first j h1)
theorem At.not {l : List Pr} {m r b : Int} {i : Nat} (h : At l m r b i) : ¬ No l m r b := fun hn => hn i h.lt h.is
/-- May a pair be? -/
def Pr.may (p : Pr) : Prop := (0 ≤ p.m ∧ p.m ≤ 49) ∧ (0 ≤ p.r ∧ p.r ≤ 15) ∧ (0 ≤ p.b ∧ p.b ≤ 8796093022207) ∧ (0 ≤ p.t ∧ p.t ≤ 65535)
/-- May an oracle be? -/
structure May (l : List Pr) : Prop where
  few : l.length ≤ 500
  each : ∀ i, i < l.length → (l.getD i pr0).may ∧ At l (l.getD i pr0).m (l.getD i pr0).r (l.getD i pr0).b i
theorem find_or (l : List Pr) (m r b : Int) : (∃ i, At l m r b i) ∨ No l m r b := by
  have key : ∀ k, k ≤ l.length → (∃ i, At l m r b i) ∨ ∀ j, j < k → ¬ (l.getD j pr0).key m r b := by
    intro k
    induction k with
    | zero => intro _; exact .inr fun j hj => absurd hj (Nat.not_lt_zero _)
    | succ k ih =>
      intro hk
      rcases ih (by omega) with h | h
      · exact .inl h
      · by_cases hx : (l.getD k pr0).key m r b
        · exact .inl ⟨k, hk, hx, h⟩
        · refine .inr fun j hj => ?_
          by_cases e : j = k
          · subst e; exact hx
          · exact h j (by omega)
  rcases key l.length (Nat.le_refl _) with h | h
  · exact .inl h
  · exact .inr h
/-- Behind tagging. -/
def IssueIs (l : List Pr) (m r b d : Int) (ls : List Pr) (x c : Int) : Prop :=
  (¬ May l ∧ ls = [] ∧ x = 0 ∧ c = 5) ∨ (May l ∧ ¬ (Pr.mk m r b d).may ∧ ls = [] ∧ x = 0 ∧ c = 2) ∨
    (May l ∧ (Pr.mk m r b d).may ∧ (∃ i, At l m r b i ∧ x = (l.getD i pr0).t) ∧ ls = l ∧ c = 0) ∨
    (May l ∧ (Pr.mk m r b d).may ∧ No l m r b ∧ l.length = 500 ∧ ls = [] ∧ x = 0 ∧ c = 16) ∨
    (May l ∧ (Pr.mk m r b d).may ∧ No l m r b ∧ l.length < 500 ∧ ls = l ++ [⟨m, r, b, d⟩] ∧ x = d ∧ c = 0)
theorem IssueIs.one {l : List Pr} {m r b d : Int} {ls ls' : List Pr} {x x' c c' : Int} (h : IssueIs l m r b d ls x c) (h' : IssueIs l m r b d ls' x' c') : ls = ls' ∧ x = x' ∧ c = c' := by
  rcases h with ⟨a1, rfl, rfl, rfl⟩ | ⟨a1, a2, rfl, rfl, rfl⟩ | ⟨a1, a2, ⟨i, ai, rfl⟩, rfl, rfl⟩ | ⟨a1, a2, a3, a4, rfl, rfl, rfl⟩ | ⟨a1, a2, a3, a4, rfl, rfl, rfl⟩ <;>
    rcases h' with ⟨b1, rfl, rfl, rfl⟩ | ⟨b1, b2, rfl, rfl, rfl⟩ | ⟨b1, b2, ⟨j, bj, rfl⟩, rfl, rfl⟩ | ⟨b1, b2, b3, b4, rfl, rfl, rfl⟩ | ⟨b1, b2, b3, b4, rfl, rfl, rfl⟩ <;>
    first | exact ⟨rfl, rfl, rfl⟩ | exact absurd b1 a1 | exact absurd a1 b1 | exact absurd b2 a2 | exact absurd a2 b2 | (exfalso; omega) | exact absurd b3 ai.not | exact absurd a3 bj.not | skip
  have := ai.one bj
  subst this
  exact ⟨rfl, rfl, rfl⟩
/-- Was just this tag given? -/
def Is (l : List Pr) (m r b t : Int) : Prop := May l ∧ ∃ i, At l m r b i ∧ (l.getD i pr0).t = t
theorem getD_app (l : List Pr) (p : Pr) (i : Nat) : (l ++ [p]).getD i pr0 = if i < l.length then l.getD i pr0 else if i = l.length then p else pr0 := by
  simp only [List.getD]
  by_cases h : i < l.length
  · rw [if_pos h, List.getElem?_append_left h]
  · rw [if_neg h, List.getElem?_append_right (by omega)]
    by_cases e : i = l.length
    · subst e; simp
    · rw [if_neg e, List.getElem?_eq_none (by simp; omega)]; rfl
theorem At.app {l : List Pr} {m r b : Int} {i : Nat} (h : At l m r b i) (p : Pr) : At (l ++ [p]) m r b i := by
  have hl := h.lt
  refine ⟨by rw [List.length_append]; omega, ?_, fun j hj => ?_⟩
  · rw [getD_app, if_pos hl]; exact h.is
  · rw [getD_app, if_pos (by omega)]; exact h.first j hj
theorem No.app {l : List Pr} {m r b : Int} (h : No l m r b) {p : Pr} (hp : p.key m r b) : At (l ++ [p]) m r b l.length := by
  refine ⟨by simp, ?_, fun j hj => ?_⟩
  · rw [getD_app, if_neg (Nat.lt_irrefl _), if_pos rfl]; exact hp
  · rw [getD_app, if_pos hj]; exact h j hj
theorem No.keep {l : List Pr} {m r b : Int} (h : No l m r b) {p : Pr} (hp : ¬ p.key m r b) : No (l ++ [p]) m r b := by
  intro j hj
  rw [List.length_append] at hj
  simp at hj
  rw [getD_app]
  by_cases h1 : j < l.length
  · rw [if_pos h1]; exact h j h1
  · rw [if_neg h1, if_pos (by omega)]; exact hp
/-- An oracle that may be, and one pair more. -/
theorem May.app {l : List Pr} {m r b d : Int} (h : May l) (hp : (Pr.mk m r b d).may) (hn : No l m r b) (hl : l.length < 500) : May (l ++ [⟨m, r, b, d⟩]) := by
  refine ⟨by rw [List.length_append]; simp; omega, fun i hi => ?_⟩
  rw [List.length_append] at hi
  simp at hi
  rw [getD_app]
  by_cases h1 : i < l.length
  · rw [if_pos h1]
    exact ⟨(h.each i h1).1, (h.each i h1).2.app _⟩
  · rw [if_neg h1, if_pos (by omega)]
    have e : i = l.length := by omega
    subst e
    exact ⟨hp, hn.app ⟨rfl, rfl, rfl⟩⟩
theorem May.nil : May [] := ⟨by decide, fun i hi => by simp at hi⟩
/-- What comes of issuing to an oracle that may be, and has room. -/
theorem IssueIs.ok {l ls : List Pr} {m r b d x c : Int} (h : IssueIs l m r b d ls x c) (hm : May l) (hp : (Pr.mk m r b d).may) (hl : l.length < 500) :
    c = 0 ∧ May ls ∧ ls.length ≤ l.length + 1 ∧ l.length ≤ ls.length ∧ 0 ≤ x ∧ x ≤ 65535 ∧ (∃ i, At ls m r b i ∧ (ls.getD i pr0).t = x) ∧ (∀ m' r' b', ¬ (m' = m ∧ r' = r ∧ b' = b) → (∀ i, At l m' r' b' i → At ls m' r' b' i ∧ ls.getD i pr0 = l.getD i pr0) ∧ (No l m' r' b' → No ls m' r' b')) ∧
      ((∃ i, At l m r b i) → ls = l) := by
  rcases h with ⟨a1, _⟩ | ⟨_, a2, _⟩ | ⟨_, _, ⟨i, ai, rfl⟩, rfl, rfl⟩ | ⟨_, _, _, a4, _⟩ | ⟨a1, a2, a3, a4, rfl, rfl, rfl⟩
  · exact absurd hm a1
  · exact absurd hp a2
  · have ht := (hm.each i ai.lt).1.2.2.2
    exact ⟨rfl, hm, by omega, by omega, ht.1, ht.2, ⟨i, ai, rfl⟩, fun m' r' b' _ => ⟨fun j hj => ⟨hj, rfl⟩, fun hn => hn⟩, fun _ => rfl⟩
  · omega
  · have ht := a2.2.2.2
    refine ⟨rfl, a1.app a2 a3 a4, by rw [List.length_append]; simp, by rw [List.length_append]; omega, ht.1, ht.2, ⟨l.length, a3.app ⟨rfl, rfl, rfl⟩, ?_⟩, fun m' r' b' hne => ⟨fun j hj => ⟨hj.app _, ?_⟩, fun hn => hn.keep ?_⟩, fun ⟨i, hi⟩ => absurd a3 hi.not⟩
    · rw [getD_app, if_neg (Nat.lt_irrefl _), if_pos rfl]
    · rw [getD_app, if_pos hj.lt]
    · rintro ⟨e1, e2, e3⟩
      exact hne ⟨e1.symm, e2.symm, e3.symm⟩

end Go.Proofs.YtnhidiefchamlaaDoor.ora
