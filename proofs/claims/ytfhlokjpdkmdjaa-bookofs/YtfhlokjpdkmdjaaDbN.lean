/- Debts: plain facts. A pair is what is owed, and what it grows by. -/
import Derived.Test.YtfhlokjpdkmdjaaTfN
namespace Go.Proofs.Ytfhlokjpdkmdjaa.deb
open Go.Proofs.Ytfhlokjpdkmdjaa.tar
set_option linter.unusedVariables false

/-- Debts that may be. -/
def Ok1 (d : Du) : Prop := (0 ≤ d.a ∧ d.a ≤ 1000000000) ∧ 0 ≤ d.b ∧ d.b ≤ 10000
def DFits (l : List Du) : Prop := ∀ i, i < l.length → Ok1 (l.getD i du0)
def Mays (l : List Du) : Prop := l.length ≤ 8 ∧ DFits l
def FaultIs (l : List Du) (e : Int) : Prop := (¬ l.length ≤ 8 ∧ e = 1) ∨ (l.length ≤ 8 ∧ ¬ DFits l ∧ e = 2) ∨ (Mays l ∧ e = 0)
theorem FaultIs.one {l : List Du} {e f : Int} (h : FaultIs l e) (h' : FaultIs l f) : e = f := by
  rcases h with ⟨a, rfl⟩ | ⟨a, b, rfl⟩ | ⟨⟨a, b⟩, rfl⟩ <;> rcases h' with ⟨a', rfl⟩ | ⟨a', b', rfl⟩ | ⟨⟨a', b'⟩, rfl⟩ <;> first | rfl | contradiction
theorem FaultIs.ok {l : List Du} {e : Int} (h : FaultIs l e) : e = 0 ↔ Mays l := by
  rcases h with ⟨a, rfl⟩ | ⟨a, b, rfl⟩ | ⟨h, rfl⟩
  · exact ⟨fun h => absurd h (by decide), fun h => absurd h.1 a⟩
  · exact ⟨fun h => absurd h (by decide), fun h => absurd h.2 b⟩
  · exact ⟨fun _ => h, fun _ => rfl⟩
theorem fits_mem {l : List Du} (h : ∀ d ∈ l, Ok1 d) : DFits l := fun i hi => by
  have e : l.getD i du0 = l[i] := by simp [List.getD, List.getElem?_eq_getElem hi]
  rw [e]; exact h _ (List.getElem_mem hi)
theorem mem_fits {l : List Du} (h : DFits l) : ∀ d ∈ l, Ok1 d := fun d hd => by
  obtain ⟨i, hi, rfl⟩ := List.getElem_of_mem hd
  have e : l.getD i du0 = l[i] := by simp [List.getD, List.getElem?_eq_getElem hi]
  rw [← e]; exact h i hi
/-- What is owed, as far as the place k. -/
def sumK (l : List Du) : Nat → Int
  | 0 => 0
  | k + 1 => sumK l k + (l.getD k du0).a
theorem sumK_next (l : List Du) (k : Nat) : sumK l (k + 1) = sumK l k + (l.getD k du0).a := rfl
/-- What is owed in all. -/
def sumD : List Du → Int
  | [] => 0
  | d :: l => d.a + sumD l
theorem sumD_app (l m : List Du) : sumD (l ++ m) = sumD l + sumD m := by
  induction l with
  | nil => simp [sumD]
  | cons t l ih => simp only [List.cons_append, sumD, ih]; omega
theorem sumK_take (l : List Du) (k : Nat) (hk : k ≤ l.length) : sumK l k = sumD (l.take k) := by
  induction k with
  | zero => simp [sumK, sumD]
  | succ k ih => rw [sumK_next, take_one l k (by omega), sumD_app, ih (by omega)]; simp [sumD]
theorem sumK_all (l : List Du) : sumK l l.length = sumD l := by rw [sumK_take l _ (Nat.le_refl _), List.take_length]
theorem sumD_pos {l : List Du} (h : ∀ d ∈ l, Ok1 d) : 0 ≤ sumD l ∧ sumD l ≤ (l.length : Int) * 1000000000 := by
  induction l with
  | nil => exact ⟨Int.le_refl _, Int.le_refl _⟩
  | cons t l ih =>
    have h1 := ih fun x hx => h x (List.mem_cons_of_mem _ hx)
    have h2 := h t List.mem_cons_self
    obtain ⟨⟨a1, a2⟩, _⟩ := h2
    refine ⟨by show 0 ≤ t.a + sumD l; omega, ?_⟩
    show t.a + sumD l ≤ ((l.length + 1 : Nat) : Int) * 1000000000
    omega
theorem sumK_bd {l : List Du} (h : Mays l) (k : Nat) (hk : k ≤ l.length) : 0 ≤ sumK l k ∧ sumK l k ≤ 8000000000 := by
  rw [sumK_take l k hk]
  have h1 := sumD_pos (l := l.take k) fun d hd => mem_fits h.2 d (List.mem_of_mem_take hd)
  have h2 : (l.take k).length ≤ 8 := by rw [List.length_take]; have := h.1; omega
  exact ⟨h1.1, by omega⟩
def OwedIs (l : List Du) (x e : Int) : Prop := FaultIs l e ∧ ((e = 0 ∧ x = sumD l) ∨ (e ≠ 0 ∧ x = 0))
theorem OwedIs.one {l : List Du} {x e y f : Int} (h : OwedIs l x e) (h' : OwedIs l y f) : x = y ∧ e = f := by
  obtain ⟨a, b⟩ := h
  obtain ⟨a', b'⟩ := h'
  obtain rfl := a.one a'
  rcases b with ⟨_, rfl⟩ | ⟨c, rfl⟩ <;> rcases b' with ⟨_, rfl⟩ | ⟨c', rfl⟩ <;> first | exact ⟨rfl, rfl⟩ | contradiction
theorem OwedIs.got {l : List Du} {x e : Int} (h : OwedIs l x e) (hm : Mays l) : x = sumD l ∧ e = 0 := by
  have h0 := h.1.ok.2 hm
  rcases h.2 with ⟨_, b⟩ | ⟨b, _⟩
  · exact ⟨b, h0⟩
  · exact absurd h0 b
/-- The share. -/
def TMay (t bp : Int) : Prop := (0 ≤ t ∧ t ≤ 100000000) ∧ 0 ≤ bp ∧ bp ≤ 10000
def ShareIs (t bp s e : Int) : Prop := (TMay t bp ∧ s = t * bp / 10000 ∧ e = 0) ∨ (¬ TMay t bp ∧ s = 0 ∧ e = 2)
theorem share_bd {t bp : Int} (h : TMay t bp) : 0 ≤ t * bp / 10000 ∧ t * bp / 10000 ≤ 100000000 := by
  obtain ⟨⟨a1, a2⟩, b1, b2⟩ := h
  have h1 := Int.mul_nonneg a1 b1
  have h2 : t * bp ≤ t * 10000 := Int.mul_le_mul_of_nonneg_left b2 a1
  generalize t * bp = p at *
  omega
/-- What is left of a debt, when so much is owed up to its end. -/
def left (a end_ s : Int) : Int := min a (end_ - s)
/-- What is left, as far as the place k. -/
def recK (l : List Du) (s : Int) : Nat → List Du
  | 0 => []
  | k + 1 => recK l s k ++ (if 0 < left (l.getD k du0).a (sumK l (k + 1)) s then [⟨left (l.getD k du0).a (sumK l (k + 1)) s, (l.getD k du0).b⟩] else [])
theorem recK_yes (l : List Du) (s : Int) (k : Nat) (h : 0 < left (l.getD k du0).a (sumK l (k + 1)) s) : recK l s (k + 1) = recK l s k ++ [⟨left (l.getD k du0).a (sumK l (k + 1)) s, (l.getD k du0).b⟩] := by
  show recK l s k ++ _ = _
  rw [if_pos h]
theorem recK_no (l : List Du) (s : Int) (k : Nat) (h : ¬ 0 < left (l.getD k du0).a (sumK l (k + 1)) s) : recK l s (k + 1) = recK l s k := by
  show recK l s k ++ _ = _
  rw [if_neg h, List.append_nil]
theorem recK_len (l : List Du) (s : Int) (k : Nat) : (recK l s k).length ≤ k := by
  induction k with
  | zero => exact Nat.le_refl _
  | succ k ih =>
    by_cases h : 0 < left (l.getD k du0).a (sumK l (k + 1)) s
    · rw [recK_yes l s k h, List.length_append]; simp; omega
    · rw [recK_no l s k h]; omega
theorem recK_ok {l : List Du} (h : Mays l) (s : Int) (k : Nat) (hk : k ≤ l.length) : ∀ d ∈ recK l s k, Ok1 d ∧ 1 ≤ d.a := by
  induction k with
  | zero => intro d hd; cases hd
  | succ k ih =>
    intro d hd
    by_cases hp : 0 < left (l.getD k du0).a (sumK l (k + 1)) s
    · rw [recK_yes l s k hp] at hd
      rcases List.mem_append.1 hd with hd | hd
      · exact ih (by omega) d hd
      · have e := List.mem_singleton.1 hd
        subst e
        have h1 := h.2 k (by omega)
        have h2 : left (l.getD k du0).a (sumK l (k + 1)) s ≤ (l.getD k du0).a := by unfold left; omega
        have h3 := h1.1.2
        exact ⟨⟨⟨by show 0 ≤ left _ _ _; omega, by show left _ _ _ ≤ _; omega⟩, h1.2⟩, by show 1 ≤ left _ _ _; omega⟩
    · rw [recK_no l s k hp] at hd
      exact ih (by omega) d hd
/-- What is left adds up to what was owed, less the share. -/
theorem recK_sum {l : List Du} (h : Mays l) (s : Int) (hs : 0 ≤ s) (k : Nat) (hk : k ≤ l.length) : sumD (recK l s k) = max 0 (sumK l k - s) := by
  induction k with
  | zero => show (0 : Int) = max 0 (0 - s); omega
  | succ k ih =>
    have h1 := ih (by omega)
    have h2 := (h.2 k (by omega)).1.1
    have h4 := sumK_next l k
    by_cases hp : 0 < left (l.getD k du0).a (sumK l (k + 1)) s
    · rw [recK_yes l s k hp, sumD_app, h1]
      simp only [sumD]
      unfold left at *
      omega
    · rw [recK_no l s k hp, h1]
      unfold left at *
      omega
def RecIs (l : List Du) (t bp : Int) (z : List Du) (p e : Int) : Prop :=
  (¬ Mays l ∧ FaultIs l e ∧ z = [] ∧ p = 0) ∨ (Mays l ∧ ¬ TMay t bp ∧ e = 2 ∧ z = [] ∧ p = 0) ∨ (Mays l ∧ TMay t bp ∧ e = 0 ∧ z = recK l (t * bp / 10000) l.length ∧ p = min (t * bp / 10000) (sumD l))
theorem RecIs.one {l : List Du} {t bp p e p' e' : Int} {z z' : List Du} (h : RecIs l t bp z p e) (h' : RecIs l t bp z' p' e') : z = z' ∧ p = p' ∧ e = e' := by
  rcases h with ⟨a, b, rfl, rfl⟩ | ⟨a, b, rfl, rfl, rfl⟩ | ⟨a, b, rfl, rfl, rfl⟩ <;> rcases h' with ⟨a', b', rfl, rfl⟩ | ⟨a', b', rfl, rfl, rfl⟩ | ⟨a', b', rfl, rfl, rfl⟩ <;> first | exact ⟨rfl, rfl, b.one b'⟩ | exact ⟨rfl, rfl, rfl⟩ | contradiction
theorem RecIs.got {l : List Du} {t bp p e : Int} {z : List Du} (h : RecIs l t bp z p e) (hm : Mays l) (ht : TMay t bp) : e = 0 ∧ z = recK l (t * bp / 10000) l.length ∧ p = min (t * bp / 10000) (sumD l) := by
  rcases h with ⟨a, _⟩ | ⟨_, b, _⟩ | ⟨_, _, c⟩
  · exact absurd hm a
  · exact absurd ht b
  · exact c
theorem RecIs.mays {l : List Du} {t bp p e : Int} {z : List Du} (h : RecIs l t bp z p e) : Mays z := by
  rcases h with ⟨_, _, rfl, _⟩ | ⟨_, _, _, rfl, _⟩ | ⟨a, b, _, rfl, _⟩
  · exact ⟨Nat.zero_le _, fun i hi => absurd hi (Nat.not_lt_zero _)⟩
  · exact ⟨Nat.zero_le _, fun i hi => absurd hi (Nat.not_lt_zero _)⟩
  · exact ⟨Nat.le_trans (recK_len l _ _) a.1, fits_mem fun d hd => (recK_ok a _ _ (Nat.le_refl _) d hd).1⟩
/-- A debt grows. -/
def grow (b x : Int) : Int := min 1000000000 (x + x * b / 10000)
def growN (b : Int) : Nat → Int → Int
  | 0, x => x
  | k + 1, x => grow b (growN b k x)
theorem grow_bd {b x : Int} (hb : 0 ≤ b) (hb2 : b ≤ 10000) (hx : 0 ≤ x) (hx2 : x ≤ 1000000000) : x ≤ grow b x ∧ grow b x ≤ 1000000000 := by
  have h1 := Int.mul_nonneg hx hb
  unfold grow
  generalize x * b = p at *
  omega
theorem growN_bd {b x : Int} (hb : 0 ≤ b) (hb2 : b ≤ 10000) (hx : 0 ≤ x) (hx2 : x ≤ 1000000000) (k : Nat) : x ≤ growN b k x ∧ growN b k x ≤ 1000000000 := by
  induction k with
  | zero => exact ⟨Int.le_refl _, hx2⟩
  | succ k ih =>
    have := grow_bd hb hb2 (show 0 ≤ growN b k x by omega) ih.2
    exact ⟨by show x ≤ grow b _; omega, this.2⟩
theorem growN_add (b : Int) (j k : Nat) (x : Int) : growN b k (growN b j x) = growN b (j + k) x := by
  induction k with
  | zero => rfl
  | succ k ih => show grow b _ = grow b _; rw [ih]; rfl
/-- Where nothing grows, nothing ever will. -/
theorem growN_still {b x : Int} (h : grow b x = x) (k : Nat) : growN b k x = x := by
  induction k with
  | zero => rfl
  | succ k ih => show grow b (growN b k x) = x; rw [ih, h]
def ageAll (l : List Du) (m : Nat) : List Du := l.map fun d => ⟨growN d.b m d.a, d.b⟩
theorem ageAll_len (l : List Du) (m : Nat) : (ageAll l m).length = l.length := List.length_map _
theorem ageAll_at (l : List Du) (m : Nat) (i : Nat) (hi : i < l.length) : (ageAll l m).getD i du0 = ⟨growN (l.getD i du0).b m (l.getD i du0).a, (l.getD i du0).b⟩ := by
  unfold ageAll
  simp [List.getD, List.getElem?_eq_getElem hi]
theorem ageAll_mays {l : List Du} (h : Mays l) (m : Nat) : Mays (ageAll l m) := by
  refine ⟨by rw [ageAll_len]; exact h.1, fun i hi => ?_⟩
  rw [ageAll_len] at hi
  rw [ageAll_at l m i hi]
  obtain ⟨⟨a1, a2⟩, b1, b2⟩ := h.2 i hi
  have := growN_bd b1 b2 a1 a2 m
  exact ⟨⟨by show 0 ≤ growN _ _ _; omega, this.2⟩, b1, b2⟩
theorem ageAll_add (l : List Du) (j k : Nat) : ageAll (ageAll l j) k = ageAll l (j + k) := by
  unfold ageAll
  rw [List.map_map]
  refine List.map_congr_left fun d _ => ?_
  simp only [Function.comp_apply]
  rw [growN_add]
theorem ageAll_take (l : List Du) (m k : Nat) (hk : k < l.length) : ageAll (l.take (k + 1)) m = ageAll (l.take k) m ++ [⟨growN (l.getD k du0).b m (l.getD k du0).a, (l.getD k du0).b⟩] := by
  rw [take_one l k hk]
  unfold ageAll
  rw [List.map_append]; rfl
def AgeIs (l : List Du) (m : Int) (z : List Du) (e : Int) : Prop := (¬ Mays l ∧ FaultIs l e ∧ z = []) ∨ (Mays l ∧ ¬ (0 ≤ m ∧ m ≤ 2400) ∧ e = 2 ∧ z = []) ∨ (Mays l ∧ (0 ≤ m ∧ m ≤ 2400) ∧ e = 0 ∧ z = ageAll l m.toNat)
theorem AgeIs.one {l : List Du} {m e e' : Int} {z z' : List Du} (h : AgeIs l m z e) (h' : AgeIs l m z' e') : z = z' ∧ e = e' := by
  rcases h with ⟨a, b, rfl⟩ | ⟨a, b, rfl, rfl⟩ | ⟨a, b, rfl, rfl⟩ <;> rcases h' with ⟨a', b', rfl⟩ | ⟨a', b', rfl, rfl⟩ | ⟨a', b', rfl, rfl⟩ <;> first | exact ⟨rfl, b.one b'⟩ | exact ⟨rfl, rfl⟩ | contradiction
theorem AgeIs.got {l : List Du} {m e : Int} {z : List Du} (h : AgeIs l m z e) (hm : Mays l) (ht : 0 ≤ m ∧ m ≤ 2400) : e = 0 ∧ z = ageAll l m.toNat := by
  rcases h with ⟨a, _⟩ | ⟨_, b, _⟩ | ⟨_, _, c⟩
  · exact absurd hm a
  · exact absurd ht b
  · exact c
theorem AgeIs.mays {l : List Du} {m e : Int} {z : List Du} (h : AgeIs l m z e) : Mays z := by
  rcases h with ⟨_, _, rfl⟩ | ⟨_, _, _, rfl⟩ | ⟨a, b, _, rfl⟩
  · exact ⟨Nat.zero_le _, fun i hi => absurd hi (Nat.not_lt_zero _)⟩
  · exact ⟨Nat.zero_le _, fun i hi => absurd hi (Nat.not_lt_zero _)⟩
  · exact ageAll_mays a _
/-- How often. -/
def CeilIs (x s n : Int) : Prop := (n - 1) * s < x ∧ x ≤ n * s
theorem CeilIs.one {x s n m : Int} (hs : 1 ≤ s) (h : CeilIs x s n) (h' : CeilIs x s m) : n = m := by
  obtain ⟨a1, a2⟩ := h
  obtain ⟨b1, b2⟩ := h'
  rcases Int.lt_trichotomy n m with c | c | c
  · have := Int.mul_le_mul_of_nonneg_right (show n ≤ m - 1 by omega) (show 0 ≤ s by omega); omega
  · exact c
  · have := Int.mul_le_mul_of_nonneg_right (show m ≤ n - 1 by omega) (show 0 ≤ s by omega); omega
def TimesIs (l : List Du) (t bp : Int) (n e : Int) : Prop :=
  (¬ Mays l ∧ FaultIs l e ∧ n = 0) ∨ (Mays l ∧ ¬ TMay t bp ∧ e = 2 ∧ n = 0) ∨ (Mays l ∧ TMay t bp ∧ sumD l = 0 ∧ e = 0 ∧ n = 0) ∨ (Mays l ∧ TMay t bp ∧ sumD l ≠ 0 ∧ t * bp / 10000 = 0 ∧ e = 4 ∧ n = 0) ∨ (Mays l ∧ TMay t bp ∧ sumD l ≠ 0 ∧ t * bp / 10000 ≠ 0 ∧ e = 0 ∧ CeilIs (sumD l) (t * bp / 10000) n)
theorem TimesIs.one {l : List Du} {t bp n e n' e' : Int} (h : TimesIs l t bp n e) (h' : TimesIs l t bp n' e') : n = n' ∧ e = e' := by
  rcases h with ⟨a, b, rfl⟩ | ⟨a, b, rfl, rfl⟩ | ⟨a, b, c, rfl, rfl⟩ | ⟨a, b, c, d, rfl, rfl⟩ | ⟨a, b, c, d, rfl, g⟩ <;> rcases h' with ⟨a', b', rfl⟩ | ⟨a', b', rfl, rfl⟩ | ⟨a', b', c', rfl, rfl⟩ | ⟨a', b', c', d', rfl, rfl⟩ | ⟨a', b', c', d', rfl, g'⟩ <;> first | exact ⟨rfl, b.one b'⟩ | exact ⟨rfl, rfl⟩ | contradiction | skip
  have := share_bd b
  exact ⟨g.one (by omega) g', rfl⟩
/-- The quotient, and one more where something is left. -/
theorem ceil_div {x s : Int} (hx : 0 ≤ x) (hs : 1 ≤ s) : (x / s * s < x → CeilIs x s (x / s + 1)) ∧ (¬ x / s * s < x → CeilIs x s (x / s)) := by
  have h1 := Int.emod_add_mul_ediv x s
  have h2 := Int.emod_nonneg x (show s ≠ 0 by omega)
  have h3 := Int.emod_lt_of_pos x (show 0 < s by omega)
  rw [Int.mul_comm] at h1
  constructor
  · intro h
    refine ⟨by rw [Int.add_sub_cancel]; exact h, ?_⟩
    rw [Int.add_mul]; omega
  · intro h
    refine ⟨?_, by omega⟩
    rw [Int.sub_mul]; omega

end Go.Proofs.Ytfhlokjpdkmdjaa.deb
