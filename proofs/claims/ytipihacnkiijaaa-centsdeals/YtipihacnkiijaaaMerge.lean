/- Sorted stretches of a row, and what comes of two of them: plain facts. -/
import Derived.Test.YtipihacnkiijaaaRotate
namespace Go.Proofs.Ytipihacnkiijaaa.cents

/-- x comes ahead of y: of it more is told; of alike ones the first. -/
def Lo (key : Int → Int) (x y : Int) : Prop := key y < key x ∨ (key x = key y ∧ x < y)
/-- What the comparison answers. -/
def cv (key : Int → Int) (x y : Int) : Int := if key y < key x then -1 else if key x < key y then 1 else 0

theorem cv_neg (key : Int → Int) (x y : Int) : cv key x y < 0 ↔ key y < key x := by
  unfold cv
  split
  · omega
  · split <;> omega
theorem cv_bd (key : Int → Int) (x y : Int) : -1 ≤ cv key x y ∧ cv key x y ≤ 1 := by
  unfold cv
  split
  · omega
  · split <;> omega

theorem Lo.trans {key : Int → Int} {x y z : Int} (h1 : Lo key x y) (h2 : Lo key y z) : Lo key x z := by unfold Lo at *; omega

def Srt (key : Int → Int) (f : Nat → Int) (a b : Nat) : Prop := ∀ i j, a ≤ i → i < j → j < b → Lo key (f i) (f j)
def Tie (f : Nat → Int) (a m b : Nat) : Prop := ∀ i j, a ≤ i → i < m → m ≤ j → j < b → f i < f j
/-- From a to b the same numbers in whatever order; elsewhere each where it was. -/
structure Mix (f f' : Nat → Int) (a b : Nat) : Prop where
  out : ∀ k, ¬ (a ≤ k ∧ k < b) → f' k = f k
  fro : ∀ k, a ≤ k → k < b → ∃ j, a ≤ j ∧ j < b ∧ f' k = f j
  to : ∀ j, a ≤ j → j < b → ∃ k, a ≤ k ∧ k < b ∧ f' k = f j

theorem Mix.refl (f : Nat → Int) (a b : Nat) : Mix f f a b := ⟨fun _ _ => rfl, fun k h1 h2 => ⟨k, h1, h2, rfl⟩, fun k h1 h2 => ⟨k, h1, h2, rfl⟩⟩
theorem Mix.trans {f f' f'' : Nat → Int} {a b : Nat} (h : Mix f f' a b) (h' : Mix f' f'' a b) : Mix f f'' a b := by
  refine ⟨fun k hk => (h'.out k hk).trans (h.out k hk), fun k h1 h2 => ?_, fun j h1 h2 => ?_⟩
  · obtain ⟨j, j1, j2, e⟩ := h'.fro k h1 h2
    obtain ⟨i, i1, i2, e'⟩ := h.fro j j1 j2
    exact ⟨i, i1, i2, e.trans e'⟩
  · obtain ⟨k, k1, k2, e⟩ := h.to j h1 h2
    obtain ⟨l, l1, l2, e'⟩ := h'.to k k1 k2
    exact ⟨l, l1, l2, e'.trans e⟩
theorem Mix.wide {f f' : Nat → Int} {a b a' b' : Nat} (h : Mix f f' a b) (h1 : a' ≤ a) (h2 : b ≤ b') : Mix f f' a' b' := by
  refine ⟨fun k hk => h.out k (by omega), fun k k1 k2 => ?_, fun j j1 j2 => ?_⟩
  · by_cases hk : a ≤ k ∧ k < b
    · obtain ⟨j, j1, j2, e⟩ := h.fro k hk.1 hk.2
      exact ⟨j, by omega, by omega, e⟩
    · exact ⟨k, k1, k2, h.out k hk⟩
  · by_cases hk : a ≤ j ∧ j < b
    · obtain ⟨k, k1, k2, e⟩ := h.to j hk.1 hk.2
      exact ⟨k, by omega, by omega, e⟩
    · exact ⟨j, j1, j2, h.out j hk⟩
/-- What holds of every number of a stretch holds behind a mixing. -/
theorem Mix.all {f f' : Nat → Int} {a b : Nat} (h : Mix f f' a b) {P : Int → Prop} (hp : ∀ k, a ≤ k → k < b → P (f k)) : ∀ k, a ≤ k → k < b → P (f' k) := by
  intro k h1 h2
  obtain ⟨j, j1, j2, e⟩ := h.fro k h1 h2
  rw [e]; exact hp j j1 j2
theorem Mix.allN {f f' : Nat → Int} {a b n : Nat} (h : Mix f f' a b) (hb : b ≤ n) {P : Int → Prop} (hp : ∀ k, k < n → P (f k)) : ∀ k, k < n → P (f' k) := by
  intro k hk
  by_cases h1 : a ≤ k ∧ k < b
  · obtain ⟨j, j1, j2, e⟩ := h.fro k h1.1 h1.2
    rw [e]; exact hp j (by omega)
  · rw [h.out k h1]; exact hp k hk

theorem rot_mix (f : Nat → Int) (s m e : Nat) (h1 : s ≤ m) (h2 : m ≤ e) : Mix f (rot f m (m - s) (e - m)) s e := by
  refine ⟨fun k hk => ?_, fun k k1 k2 => ?_, fun j j1 j2 => ?_⟩
  · simp only [rot]; rw [if_neg (by omega), if_neg (by omega)]
  · by_cases hk : k < s + (e - m)
    · exact ⟨k + (m - s), by omega, by omega, by simp only [rot]; rw [if_pos (by omega)]⟩
    · exact ⟨k - (e - m), by omega, by omega, by simp only [rot]; rw [if_neg (by omega), if_pos (by omega)]⟩
  · by_cases hj : j < m
    · exact ⟨j + (e - m), by omega, by omega, by simp only [rot]; rw [if_neg (by omega), if_pos (by omega)]; congr 1; omega⟩
    · exact ⟨j - (m - s), by omega, by omega, by simp only [rot]; rw [if_pos (by omega)]; congr 1; omega⟩

theorem Srt.join {key : Int → Int} {f : Nat → Int} {a m b : Nat} (h1 : Srt key f a m) (h2 : Srt key f m b) (hx : ∀ i j, a ≤ i → i < m → m ≤ j → j < b → Lo key (f i) (f j)) : Srt key f a b := by
  intro i j hi hij hj
  by_cases c1 : j < m
  · exact h1 i j hi hij c1
  · by_cases c2 : i < m
    · exact hx i j hi c2 (by omega) hj
    · exact h2 i j (by omega) hij hj
theorem Srt.sub {key : Int → Int} {f : Nat → Int} {a b a' b' : Nat} (h : Srt key f a b) (h1 : a ≤ a') (h2 : b' ≤ b) : Srt key f a' b' := fun i j hi hij hj => h i j (by omega) hij (by omega)
theorem Srt.congr {key : Int → Int} {f f' : Nat → Int} {a b : Nat} (h : Srt key f a b) (e : ∀ k, a ≤ k → k < b → f' k = f k) : Srt key f' a b := by
  intro i j hi hij hj
  rw [e i hi (by omega), e j (by omega) hj]
  exact h i j hi hij hj
theorem Srt.empty (key : Int → Int) (f : Nat → Int) {a b : Nat} (h : b ≤ a + 1) : Srt key f a b := fun i j hi hij hj => by omega

/-- What is known behind the turn: s, m, e as they were; mid = s + (e - m). -/
structure Parts (key : Int → Int) (f' : Nat → Int) (a s mid e b : Nat) : Prop where
  s1 : Srt key f' a s
  s2 : Srt key f' s mid
  s3 : Srt key f' mid e
  s4 : Srt key f' e b
  t1 : Tie f' a s mid
  t2 : Tie f' mid e b
  x : ∀ i j, a ≤ i → i < mid → mid ≤ j → j < b → Lo key (f' i) (f' j)

theorem parts {key : Int → Int} {f : Nat → Int} {a s m e b : Nat} (h1 : a ≤ s) (h2 : s ≤ m) (h3 : m ≤ e) (h4 : e ≤ b) (sl : Srt key f a m) (sr' : Srt key f m b) (t : Tie f a m b)
    (x1 : ∀ i j, a ≤ i → i < s → e ≤ j → j < b → Lo key (f i) (f j)) (x2 : ∀ i j, s ≤ i → i < m → m ≤ j → j < e → Lo key (f j) (f i)) :
    Parts key (rot f m (m - s) (e - m)) a s (s + (e - m)) e b := by
  have r0 : ∀ k, k < s → rot f m (m - s) (e - m) k = f k := fun k hk => by simp only [rot]; rw [if_neg (by omega), if_neg (by omega)]
  have r1 : ∀ k, s ≤ k → k < s + (e - m) → rot f m (m - s) (e - m) k = f (k + (m - s)) := fun k hk hk2 => by simp only [rot]; rw [if_pos (by omega)]
  have r2 : ∀ k, s + (e - m) ≤ k → k < e → rot f m (m - s) (e - m) k = f (k - (e - m)) := fun k hk hk2 => by simp only [rot]; rw [if_neg (by omega), if_pos (by omega)]
  have r3 : ∀ k, e ≤ k → rot f m (m - s) (e - m) k = f k := fun k hk => by simp only [rot]; rw [if_neg (by omega), if_neg (by omega)]
  generalize rot f m (m - s) (e - m) = f' at *
  refine ⟨?_, ?_, ?_, ?_, ?_, ?_, ?_⟩
  · intro i j hi hij hj; rw [r0 i (by omega), r0 j (by omega)]; exact sl i j hi hij (by omega)
  · intro i j hi hij hj; rw [r1 i (by omega) (by omega), r1 j (by omega) (by omega)]; exact sr' _ _ (by omega) (by omega) (by omega)
  · intro i j hi hij hj; rw [r2 i (by omega) (by omega), r2 j (by omega) (by omega)]; exact sl _ _ (by omega) (by omega) (by omega)
  · intro i j hi hij hj; rw [r3 i (by omega), r3 j (by omega)]; exact sr' _ _ (by omega) (by omega) (by omega)
  · intro i j hi hij hj hj2; rw [r0 i (by omega), r1 j (by omega) (by omega)]; exact t _ _ (by omega) (by omega) (by omega) (by omega)
  · intro i j hi hij hj hj2; rw [r2 i (by omega) (by omega), r3 j (by omega)]; exact t _ _ (by omega) (by omega) (by omega) (by omega)
  · intro i j hi hi2 hj hj2
    by_cases c1 : i < s
    · rw [r0 i c1]
      by_cases c2 : j < e
      · rw [r2 j hj c2]; exact sl _ _ (by omega) (by omega) (by omega)
      · rw [r3 j (by omega)]; exact x1 _ _ (by omega) (by omega) (by omega) (by omega)
    · rw [r1 i (by omega) hi2]
      by_cases c2 : j < e
      · rw [r2 j hj c2]; exact x2 _ _ (by omega) (by omega) (by omega) (by omega)
      · rw [r3 j (by omega)]; exact sr' _ _ (by omega) (by omega) (by omega)

theorem tie_lo {key : Int → Int} {x y : Int} (h : x < y) (hn : ¬ key x < key y) : Lo key x y := by unfold Lo; omega

end Go.Proofs.Ytipihacnkiijaaa.cents
