/- Days and months: plain facts. -/
namespace Go.Proofs.Ytgeemnoefhnlnaa.cal
set_option linter.unusedVariables false

/-- How many days a month has. -/
def ml (y m : Int) : Int := if m = 2 then (if y % 400 = 0 ∨ (y % 4 = 0 ∧ y % 100 ≠ 0) then 29 else 28) else if m = 4 ∨ m = 6 ∨ m = 9 ∨ m = 11 then 30 else 31
/-- The same of a month that is told by its number. -/
def mk (k : Nat) : Int := ml (2000 + ((k / 12 : Nat) : Int)) (((k % 12 : Nat) : Int) + 1)
/-- How many days there are ahead of a month. -/
def cd : Nat → Int
  | 0 => 0
  | k + 1 => cd k + mk k
theorem ml_bd (y m : Int) : 28 ≤ ml y m ∧ ml y m ≤ 31 := by
  unfold ml
  split
  · split <;> omega
  · split <;> omega
theorem mk_bd (k : Nat) : 28 ≤ mk k ∧ mk k ≤ 31 := ml_bd _ _
theorem cd_next (k : Nat) : cd (k + 1) = cd k + mk k := rfl
theorem cd_pos (k : Nat) : 0 ≤ cd k := by
  induction k with
  | zero => exact Int.le_refl _
  | succ k ih => have := mk_bd k; rw [cd_next]; omega
theorem cd_le {j k : Nat} (h : j ≤ k) : cd j ≤ cd k := by
  induction k with
  | zero => have : j = 0 := by omega
            subst this; exact Int.le_refl _
  | succ k ih =>
    by_cases e : j = k + 1
    · subst e; exact Int.le_refl _
    · have h1 := ih (by omega); have h2 := mk_bd k
      rw [cd_next]; omega
theorem cd_lt {j k : Nat} (h : j < k) : cd j + 28 ≤ cd k := by
  have h1 := cd_le (show j + 1 ≤ k from h)
  have h2 := mk_bd j
  rw [cd_next] at h1; omega
/-- How many days a year has. -/
def yl (j : Nat) : Int := if j % 400 = 0 ∨ (j % 4 = 0 ∧ j % 100 ≠ 0) then 366 else 365
theorem ml_at (j : Nat) (i : Nat) (hi : i < 12) : mk (12 * j + i) = ml (2000 + (j : Int)) ((i : Int) + 1) := by
  unfold mk
  rw [show (12 * j + i) / 12 = j by omega, show (12 * j + i) % 12 = i by omega]
theorem ml_feb (j : Nat) : ml (2000 + (j : Int)) 2 = if j % 400 = 0 ∨ (j % 4 = 0 ∧ j % 100 ≠ 0) then 29 else 28 := by
  unfold ml
  rw [if_pos rfl]
  by_cases h : j % 400 = 0 ∨ (j % 4 = 0 ∧ j % 100 ≠ 0)
  · rw [if_pos h, if_pos (by omega)]
  · rw [if_neg h, if_neg (by omega)]
theorem cd_year (j : Nat) : cd (12 * (j + 1)) = cd (12 * j) + yl j := by
  have m0 := ml_at j 0 (by decide); have m1 := ml_at j 1 (by decide); have m2 := ml_at j 2 (by decide); have m3 := ml_at j 3 (by decide)
  have m4 := ml_at j 4 (by decide); have m5 := ml_at j 5 (by decide); have m6 := ml_at j 6 (by decide); have m7 := ml_at j 7 (by decide)
  have m8 := ml_at j 8 (by decide); have m9 := ml_at j 9 (by decide); have m10 := ml_at j 10 (by decide); have m11 := ml_at j 11 (by decide)
  have hf := ml_feb j
  have e0 : mk (12 * j) = 31 := m0
  have e1 : mk (12 * j + 1) = ml (2000 + (j : Int)) 2 := m1
  have e2 : mk (12 * j + 2) = 31 := m2
  have e3 : mk (12 * j + 3) = 30 := m3
  have e4 : mk (12 * j + 4) = 31 := m4
  have e5 : mk (12 * j + 5) = 30 := m5
  have e6 : mk (12 * j + 6) = 31 := m6
  have e7 : mk (12 * j + 7) = 31 := m7
  have e8 : mk (12 * j + 8) = 30 := m8
  have e9 : mk (12 * j + 9) = 31 := m9
  have e10 : mk (12 * j + 10) = 30 := m10
  have e11 : mk (12 * j + 11) = 31 := m11
  rw [show 12 * (j + 1) = 12 * j + 11 + 1 by omega]
  rw [cd_next, cd_next, cd_next, cd_next, cd_next, cd_next, cd_next, cd_next, cd_next, cd_next, cd_next, cd_next]
  rw [e0, e1, e2, e3, e4, e5, e6, e7, e8, e9, e10, e11, hf]
  unfold yl
  split <;> omega
/-- The days ahead of a year, reckoned. -/
theorem cd_years (j : Nat) : cd (12 * j) = 365 * (j : Int) + (((j + 3) / 4 : Nat) : Int) - (((j + 99) / 100 : Nat) : Int) + (((j + 399) / 400 : Nat) : Int) := by
  induction j with
  | zero => rfl
  | succ j ih =>
    rw [cd_year, ih]
    unfold yl
    by_cases h : j % 400 = 0 ∨ (j % 4 = 0 ∧ j % 100 ≠ 0)
    · rw [if_pos h]; omega
    · rw [if_neg h]; omega
theorem cd_end : cd 2400 = 73049 := cd_years 200
/-- The month that a day lies in. -/
def InMon (day : Int) (k : Nat) : Prop := cd k ≤ day ∧ day < cd (k + 1)
theorem InMon.one {day : Int} {j k : Nat} (h : InMon day j) (h' : InMon day k) : j = k := by
  rcases Nat.lt_trichotomy j k with h1 | h1 | h1
  · have := cd_le (show j + 1 ≤ k from h1); have h2 := h.2; have h3 := h'.1; omega
  · exact h1
  · have := cd_le (show k + 1 ≤ j from h1); have h2 := h'.2; have h3 := h.1; omega
theorem InMon.lt {day : Int} {k : Nat} (h : InMon day k) (hd : day ≤ 73048) : k < 2400 := by
  by_cases e : k < 2400
  · exact e
  · have h1 := cd_le (show 2400 ≤ k by omega)
    have h2 := h.1
    rw [cd_end] at h1; omega
theorem in_mon (day : Int) (h0 : 0 ≤ day) (n : Nat) (h : day < cd n) : ∃ k, k < n ∧ InMon day k := by
  induction n with
  | zero => exact absurd h (by show ¬ day < 0; omega)
  | succ n ih =>
    by_cases e : day < cd n
    · obtain ⟨k, hk, hi⟩ := ih e
      exact ⟨k, by omega, hi⟩
    · exact ⟨n, by omega, by omega, h⟩
theorem month_of (day : Int) (h0 : 0 ≤ day) (h1 : day ≤ 73048) : ∃ k, k < 2400 ∧ InMon day k := in_mon day h0 2400 (by rw [cd_end]; omega)
/-- What the five ask for. -/
def Valid (y m d : Int) : Prop := (2000 ≤ y ∧ y ≤ 2199) ∧ (1 ≤ m ∧ m ≤ 12) ∧ 1 ≤ d ∧ d ≤ ml y m
def DayIs (y m d : Int) (x e : Int) : Prop := (Valid y m d ∧ x = cd ((y - 2000) * 12 + m - 1).toNat + d - 1 ∧ e = 0) ∨ (¬ Valid y m d ∧ x = 0 ∧ e = 2)
def DateIs (day : Int) (y m d e : Int) : Prop := ((0 ≤ day ∧ day ≤ 73048) ∧ (∃ k, k < 2400 ∧ InMon day k ∧ y = 2000 + ((k / 12 : Nat) : Int) ∧ m = ((k % 12 : Nat) : Int) + 1 ∧ d = day - cd k + 1) ∧ e = 0) ∨ (¬ (0 ≤ day ∧ day ≤ 73048) ∧ y = 0 ∧ m = 0 ∧ d = 0 ∧ e = 2)
def MonIs (day : Int) (x e : Int) : Prop := ((0 ≤ day ∧ day ≤ 73048) ∧ (∃ k : Nat, k < 2400 ∧ InMon day k ∧ x = (k : Int)) ∧ e = 0) ∨ (¬ (0 ≤ day ∧ day ≤ 73048) ∧ x = 0 ∧ e = 2)
def SpanIs (mo : Int) (x y e : Int) : Prop := ((0 ≤ mo ∧ mo ≤ 2399) ∧ x = cd mo.toNat ∧ y = cd (mo.toNat + 1) - 1 ∧ e = 0) ∨ (¬ (0 ≤ mo ∧ mo ≤ 2399) ∧ x = 0 ∧ y = 0 ∧ e = 2)
def WeekIs (day : Int) (x e : Int) : Prop := ((0 ≤ day ∧ day ≤ 73048) ∧ x = (day + 5) % 7 ∧ e = 0) ∨ (¬ (0 ≤ day ∧ day ≤ 73048) ∧ x = 0 ∧ e = 2)
theorem DayIs.one {y m d x e x' e' : Int} (h : DayIs y m d x e) (h' : DayIs y m d x' e') : x = x' ∧ e = e' := by
  rcases h with ⟨a, rfl, rfl⟩ | ⟨a, rfl, rfl⟩ <;> rcases h' with ⟨b, rfl, rfl⟩ | ⟨b, rfl, rfl⟩ <;> first | exact ⟨rfl, rfl⟩ | exact absurd a b | exact absurd b a
theorem MonIs.one {day x e x' e' : Int} (h : MonIs day x e) (h' : MonIs day x' e') : x = x' ∧ e = e' := by
  rcases h with ⟨a, ⟨k, _, hk, rfl⟩, rfl⟩ | ⟨a, rfl, rfl⟩ <;> rcases h' with ⟨b, ⟨j, _, hj, rfl⟩, rfl⟩ | ⟨b, rfl, rfl⟩
  · obtain rfl := hk.one hj; exact ⟨rfl, rfl⟩
  · exact absurd a b
  · exact absurd b a
  · exact ⟨rfl, rfl⟩
theorem DateIs.one {day y m d e y' m' d' e' : Int} (h : DateIs day y m d e) (h' : DateIs day y' m' d' e') : y = y' ∧ m = m' ∧ d = d' ∧ e = e' := by
  rcases h with ⟨a, ⟨k, _, hk, rfl, rfl, rfl⟩, rfl⟩ | ⟨a, rfl, rfl, rfl, rfl⟩ <;> rcases h' with ⟨b, ⟨j, _, hj, rfl, rfl, rfl⟩, rfl⟩ | ⟨b, rfl, rfl, rfl, rfl⟩
  · obtain rfl := hk.one hj; exact ⟨rfl, rfl, rfl, rfl⟩
  · exact absurd a b
  · exact absurd b a
  · exact ⟨rfl, rfl, rfl, rfl⟩
theorem SpanIs.one {mo x y e x' y' e' : Int} (h : SpanIs mo x y e) (h' : SpanIs mo x' y' e') : x = x' ∧ y = y' ∧ e = e' := by
  rcases h with ⟨a, rfl, rfl, rfl⟩ | ⟨a, rfl, rfl, rfl⟩ <;> rcases h' with ⟨b, rfl, rfl, rfl⟩ | ⟨b, rfl, rfl, rfl⟩ <;> first | exact ⟨rfl, rfl, rfl⟩ | exact absurd a b | exact absurd b a
theorem WeekIs.one {day x e x' e' : Int} (h : WeekIs day x e) (h' : WeekIs day x' e') : x = x' ∧ e = e' := by
  rcases h with ⟨a, rfl, rfl⟩ | ⟨a, rfl, rfl⟩ <;> rcases h' with ⟨b, rfl, rfl⟩ | ⟨b, rfl, rfl⟩ <;> first | exact ⟨rfl, rfl⟩ | exact absurd a b | exact absurd b a
/-- A month that is told by its number. -/
theorem mk_ml (k : Nat) : mk k = ml (2000 + ((k / 12 : Nat) : Int)) (((k % 12 : Nat) : Int) + 1) := rfl
/-- A date of a day may be, and is that day's. -/
theorem date_back {day y m d : Int} (h : DateIs day y m d 0) : DayIs y m d day 0 := by
  rcases h with ⟨a, ⟨k, hk, hi, rfl, rfl, rfl⟩, _⟩ | ⟨_, _, _, _, e⟩
  · have h1 := hi.1; have h2 := hi.2
    rw [cd_next, mk_ml] at h2
    refine .inl ⟨⟨⟨by omega, by omega⟩, ⟨by omega, by omega⟩, by omega, by omega⟩, ?_, rfl⟩
    rw [show ((2000 + ((k / 12 : Nat) : Int) - 2000) * 12 + (((k % 12 : Nat) : Int) + 1) - 1).toNat = k by omega]
    omega
  · exact absurd e (by decide)

end Go.Proofs.Ytgeemnoefhnlnaa.cal
