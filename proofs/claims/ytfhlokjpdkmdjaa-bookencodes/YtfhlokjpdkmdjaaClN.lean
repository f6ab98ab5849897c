/- Words and writes: plain facts. -/
namespace Go.Proofs.Ytfhlokjpdkmdjaa.cell

/-- A write: its place, and its word. -/
structure Wr where
  p : Int
  d : Int
def wr0 : Wr := ⟨0, 0⟩

/-- The words behind these writes. -/
def wrt : List Int → List Wr → List Int
  | c, [] => c
  | c, e :: l => wrt (c.set e.p.toNat e.d) l
theorem wrt_app (c : List Int) (l m : List Wr) : wrt c (l ++ m) = wrt (wrt c l) m := by
  induction l generalizing c with
  | nil => rfl
  | cons e l ih => exact ih _
theorem wrt_one (c : List Int) (e : Wr) : wrt c [e] = c.set e.p.toNat e.d := rfl
theorem wrt_len (c : List Int) (l : List Wr) : (wrt c l).length = c.length := by
  induction l generalizing c with
  | nil => rfl
  | cons e l ih => rw [wrt, ih, List.length_set]
theorem take_one (l : List Wr) (k : Nat) (h : k < l.length) : l.take (k + 1) = l.take k ++ [l.getD k wr0] := by
  rw [List.take_succ_eq_append_getElem h]
  simp [List.getD, List.getElem?_eq_getElem h]
theorem wrt_step (c : List Int) (l : List Wr) (k : Nat) (h : k < l.length) : wrt c (l.take (k + 1)) = (wrt c (l.take k)).set (l.getD k wr0).p.toNat (l.getD k wr0).d := by
  rw [take_one l k h, wrt_app, wrt_one]
theorem set_at (c : List Int) (i j : Nat) (v : Int) : (c.set i v).getD j 0 = if j = i ∧ i < c.length then v else c.getD j 0 := by
  simp only [List.getD, List.getElem?_set]
  by_cases h : i = j
  · subst h
    by_cases h2 : i < c.length
    · simp [h2]
    · simp [h2]
  · rw [if_neg h, if_neg (by omega)]

/-- Every write goes to one of n places. -/
def inN (n : Nat) (e : Wr) : Bool := decide (0 ≤ e.p) && decide (e.p < n)
theorem inN_iff {n : Nat} {e : Wr} : inN n e = true ↔ 0 ≤ e.p ∧ e.p < n := by simp [inN]
def allN (n : Nat) (l : List Wr) : Bool := l.all (inN n)
theorem allN_at {n : Nat} {l : List Wr} (h : allN n l = true) (k : Nat) (hk : k < l.length) : 0 ≤ (l.getD k wr0).p ∧ (l.getD k wr0).p < n := by
  have := List.all_eq_true.1 h l[k] (List.getElem_mem hk)
  rw [inN_iff] at this
  simpa [List.getD, List.getElem?_eq_getElem hk] using this
theorem allN_take {n : Nat} {l : List Wr} (h : allN n l = true) (k : Nat) : allN n (l.take k) = true := by
  refine List.all_eq_true.2 fun e he => ?_
  exact List.all_eq_true.1 h e (List.mem_of_mem_take he)
theorem allN_step (n : Nat) (l : List Wr) (k : Nat) (hk : k < l.length) : allN n (l.take (k + 1)) = (allN n (l.take k) && inN n (l.getD k wr0)) := by
  rw [take_one l k hk]; simp [allN]
theorem allN_of_false {n : Nat} {l : List Wr} {k : Nat} (hk : k < l.length) (h : inN n (l.getD k wr0) = false) : allN n l = false := by
  refine Bool.eq_false_iff.2 fun ha => ?_
  have := allN_at ha k hk
  rw [← inN_iff] at this
  rw [h] at this; cases this
theorem allN_snoc {n : Nat} {l : List Wr} {e : Wr} (h : allN n l = true) (he : 0 ≤ e.p ∧ e.p < n) : allN n (l ++ [e]) = true := by
  unfold allN at *
  rw [List.all_append, h]
  simp [inN, he]

/-- The writes that make b of a, as far as the place k. -/
def dif (a b : List Int) : Nat → List Wr
  | 0 => []
  | k + 1 => if a.getD k 0 = b.getD k 0 then dif a b k else dif a b k ++ [⟨(k : Int), b.getD k 0⟩]
theorem dif_same {a b : List Int} {k : Nat} (h : a.getD k 0 = b.getD k 0) : dif a b (k + 1) = dif a b k := by rw [dif, if_pos h]
theorem dif_other {a b : List Int} {k : Nat} (h : ¬ a.getD k 0 = b.getD k 0) : dif a b (k + 1) = dif a b k ++ [⟨(k : Int), b.getD k 0⟩] := by rw [dif, if_neg h]
theorem dif_len (a b : List Int) (k : Nat) : (dif a b k).length ≤ k := by
  induction k with
  | zero => exact Nat.le_refl _
  | succ k ih =>
    rw [dif]; split
    · omega
    · rw [List.length_append]; simp; omega
theorem dif_mem {a b : List Int} {k : Nat} {e : Wr} (h : e ∈ dif a b k) : ∃ j : Nat, j < k ∧ e = ⟨(j : Int), b.getD j 0⟩ ∧ a.getD j 0 ≠ b.getD j 0 := by
  induction k with
  | zero => simp [dif] at h
  | succ k ih =>
    rw [dif] at h
    split at h
    · obtain ⟨j, hj, he⟩ := ih h; exact ⟨j, by omega, he⟩
    · rename_i hne
      rcases List.mem_append.1 h with h | h
      · obtain ⟨j, hj, he⟩ := ih h; exact ⟨j, by omega, he⟩
      · simp at h; exact ⟨k, by omega, h, hne⟩
theorem dif_all (a b : List Int) (k n : Nat) (h : k ≤ n) : allN n (dif a b k) = true := by
  refine List.all_eq_true.2 fun e he => ?_
  obtain ⟨j, hj, rfl, _⟩ := dif_mem he
  rw [inN_iff]
  exact ⟨by show (0 : Int) ≤ j; omega, by show (j : Int) < n; omega⟩
theorem dif_rises (a b : List Int) (k : Nat) : (dif a b k).Pairwise (fun x y => x.p < y.p) := by
  induction k with
  | zero => exact List.Pairwise.nil
  | succ k ih =>
    rw [dif]; split
    · exact ih
    · refine List.pairwise_append.2 ⟨ih, List.pairwise_singleton _ _, fun x hx y hy => ?_⟩
      obtain ⟨j, hj, rfl, _⟩ := dif_mem hx
      simp at hy; subst hy
      show (j : Int) < k; omega
theorem dif_wrt (a b : List Int) (k j : Nat) (hk : k ≤ a.length) : (wrt a (dif a b k)).getD j 0 = if j < k then b.getD j 0 else a.getD j 0 := by
  induction k with
  | zero => rfl
  | succ k ih =>
    have ih := ih (by omega)
    rw [dif]; split
    · rename_i he
      rw [ih]
      by_cases h1 : j < k
      · rw [if_pos h1, if_pos (by omega)]
      · by_cases h2 : j = k
        · subst h2; rw [if_neg h1, if_pos (by omega)]; exact he
        · rw [if_neg h1, if_neg (by omega)]
    · rw [wrt_app, wrt_one, set_at, ih, wrt_len]
      simp only [Int.toNat_natCast]
      by_cases h2 : j = k
      · subst h2; rw [if_pos ⟨rfl, by omega⟩, if_pos (by omega)]
      · rw [if_neg (by omega)]
        by_cases h1 : j < k
        · rw [if_pos h1, if_pos (by omega)]
        · rw [if_neg h1, if_neg (by omega)]
theorem list_ext {a b : List Int} (hl : a.length = b.length) (h : ∀ j, j < a.length → a.getD j 0 = b.getD j 0) : a = b := by
  apply List.ext_getElem hl
  intro j h1 h2
  have := h j h1
  simpa [List.getD, List.getElem?_eq_getElem h1, List.getElem?_eq_getElem h2] using this
/-- What differs makes the one of the other. -/
theorem dif_back (a b : List Int) (h : a.length = b.length) : wrt a (dif a b a.length) = b := by
  refine list_ext (by rw [wrt_len, h]) fun j hj => ?_
  rw [wrt_len] at hj
  rw [dif_wrt a b _ j (Nat.le_refl _), if_pos hj]

end Go.Proofs.Ytfhlokjpdkmdjaa.cell
