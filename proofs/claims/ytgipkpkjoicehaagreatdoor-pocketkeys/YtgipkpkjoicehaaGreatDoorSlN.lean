/- Slots: plain facts. -/
import Derived.Test.YtgipkpkjoicehaaGreatDoorClN
namespace Go.Proofs.YtgipkpkjoicehaaGreatDoor.slot
open Go.Proofs.YtgipkpkjoicehaaGreatDoor.cell

/-- Is this the mark of a good slot? -/
def good (m : Int) : Bool := decide (1 ≤ m) && decide (m ≤ 3)
/-- The mark that comes behind. -/
def behind (m : Int) : Int := if m = 3 then 1 else m + 1
/-- Which slot counts, by the two marks; 2: neither. -/
def cnt (a b : Int) : Nat :=
  if good a then (if good b then (if behind a = b then 1 else 0) else 0) else (if good b then 1 else 2)
theorem good_iff {m : Int} : good m = true ↔ 1 ≤ m ∧ m ≤ 3 := by simp [good]
theorem good_behind {m : Int} (h : good m = true) : good (behind m) = true ∧ behind m ≠ m ∧ behind (behind m) ≠ m := by
  rw [good_iff] at h
  have h3 : m = 1 ∨ m = 2 ∨ m = 3 := by omega
  rcases h3 with rfl | rfl | rfl <;> decide
theorem cnt_first {a b : Int} (h : cnt a b = 0) : good a = true ∧ (good b = true → behind a ≠ b) := by
  unfold cnt at h
  cases ha : good a <;> cases hb : good b <;> simp [ha, hb] at h <;> simp [h]
theorem cnt_second {a b : Int} (h : cnt a b = 1) : good b = true ∧ (good a = true → behind a = b) := by
  unfold cnt at h
  cases ha : good a <;> cases hb : good b <;> simp [ha, hb] at h <;> simp [h]
theorem cnt_le (a b : Int) : cnt a b ≤ 2 := by unfold cnt; repeat' split
                                               all_goals omega
theorem good_zero : good 0 = false := by decide
theorem cnt_blank_second {a : Int} (h : good a = true) : cnt a 0 = 0 := by simp [cnt, h, good_zero]
theorem cnt_blank_first {b : Int} (h : good b = true) : cnt 0 b = 1 := by simp [cnt, h, good_zero]
theorem cnt_new_second {a : Int} (h : good a = true) : cnt a (behind a) = 1 := by simp [cnt, h, (good_behind h).1]
theorem cnt_new_first {b : Int} (h : good b = true) : cnt (behind b) b = 0 := by
  have := good_behind h
  simp [cnt, h, this.1, this.2.2]

/-- Where a slot begins: its mark's place. -/
def beg (n s : Nat) : Nat := s * (n + 1)
/-- The record of a slot. -/
def rcd (c : List Int) (n s : Nat) : List Int := (List.range n).map fun i => c.getD (beg n s + 1 + i) 0
/-- Which slot counts. -/
def which (c : List Int) (n : Nat) : Nat := cnt (c.getD 0 0) (c.getD (n + 1) 0)
/-- The first i writes of a record's words, into the slot that begins at o. -/
def body (o : Nat) (r : List Int) : Nat → List Wr
  | 0 => []
  | i + 1 => body o r i ++ [⟨((o + 1 + i : Nat) : Int), r.getD i 0⟩]
/-- The writes that lay a record into the slot that does not count. -/
def sto (c r : List Int) (n : Nat) : List Wr :=
  [⟨((beg n (1 - which c n) : Nat) : Int), 0⟩] ++ body (beg n (1 - which c n)) r n ++ [⟨((beg n (1 - which c n) : Nat) : Int), behind (c.getD (beg n (which c n)) 0)⟩]
theorem rcd_len (c : List Int) (n s : Nat) : (rcd c n s).length = n := by simp [rcd]
theorem rcd_at (c : List Int) (n s i : Nat) (h : i < n) : (rcd c n s).getD i 0 = c.getD (beg n s + 1 + i) 0 := by simp [rcd, List.getD, h]
theorem body_len (o : Nat) (r : List Int) (i : Nat) : (body o r i).length = i := by
  induction i with
  | zero => rfl
  | succ i ih => simp [body, ih]
theorem sto_len (c r : List Int) (n : Nat) : (sto c r n).length = n + 2 := by simp [sto, body_len]
theorem body_take (o : Nat) (r : List Int) (n i : Nat) (h : i ≤ n) : (body o r n).take i = body o r i := by
  induction n with
  | zero => have : i = 0 := by omega
            subst this; rfl
  | succ n ih =>
    by_cases e : i = n + 1
    · subst e; rw [List.take_of_length_le (by rw [body_len]; omega)]
    · rw [body, List.take_append_of_le_length (by rw [body_len]; omega)]
      exact ih (by omega)
theorem body_in (o : Nat) (r : List Int) (i N : Nat) (h : o + 1 + i ≤ N) : allN N (body o r i) = true := by
  induction i with
  | zero => rfl
  | succ i ih =>
    rw [body]
    exact allN_snoc (ih (by omega)) ⟨by show (0 : Int) ≤ ((o + 1 + i : Nat) : Int); omega, by show ((o + 1 + i : Nat) : Int) < (N : Int); omega⟩
theorem beg_lt {n s : Nat} (h : s ≤ 1) : beg n s + n + 1 ≤ 2 * n + 2 := by
  unfold beg
  have : s = 0 ∨ s = 1 := by omega
  rcases this with rfl | rfl <;> omega
theorem sto_in (c r : List Int) (n : Nat) : allN (2 * n + 2) (sto c r n) = true := by
  have hb := beg_lt (n := n) (s := 1 - which c n) (by omega)
  unfold sto
  generalize beg n (1 - which c n) = o at *
  refine allN_snoc ?_ ⟨by show (0 : Int) ≤ (o : Int); omega, by show (o : Int) < ((2 * n + 2 : Nat) : Int); omega⟩
  have h1 := body_in o r n (2 * n + 2) (by omega)
  unfold allN at *
  rw [List.all_append, h1]
  simp [inN]
  omega
/-- Behind the words of a record. -/
theorem body_wrt (c r : List Int) (o i j : Nat) (hl : o + i < c.length) : (wrt c (body o r i)).getD j 0 = if o + 1 ≤ j ∧ j < o + 1 + i then r.getD (j - (o + 1)) 0 else c.getD j 0 := by
  induction i with
  | zero => rw [if_neg (by omega)]; rfl
  | succ i ih =>
    rw [body, wrt_app, wrt_one, set_at, ih (by omega), wrt_len]
    simp only [Int.toNat_natCast]
    by_cases e : j = o + 1 + i
    · subst e
      rw [if_pos ⟨rfl, by omega⟩, if_pos (by omega)]
      congr 1; omega
    · rw [if_neg (by omega)]
      by_cases h : o + 1 ≤ j ∧ j < o + 1 + i
      · rw [if_pos h, if_pos (by omega)]
      · rw [if_neg h, if_neg (by omega)]
/-- Behind the first nought and i words. -/
theorem cut_wrt (c r : List Int) (o i j : Nat) (hl : o + i < c.length) : (wrt c ([⟨((o : Nat) : Int), 0⟩] ++ body o r i)).getD j 0 = if j = o then 0 else if o + 1 ≤ j ∧ j < o + 1 + i then r.getD (j - (o + 1)) 0 else c.getD j 0 := by
  rw [wrt_app, wrt_one, body_wrt _ _ _ _ _ (by rw [List.length_set]; exact hl), set_at]
  simp only [Int.toNat_natCast]
  by_cases e : j = o
  · subst e
    rw [if_neg (by omega), if_pos ⟨rfl, by omega⟩, if_pos rfl]
  · rw [if_neg (show ¬ (j = o ∧ o < c.length) by omega), if_neg e]

/-- Slots that hold the record r. -/
structure Holds (c : List Int) (n : Nat) (r : List Int) : Prop where
  len : c.length = 2 * n + 2
  one : which c n ≤ 1
  is : rcd c n (which c n) = r
theorem Holds.good {c r : List Int} {n : Nat} (h : Holds c n r) : good (c.getD (beg n (which c n)) 0) = true := by
  have h1 := h.one
  have h2 : which c n = 0 ∨ which c n = 1 := by omega
  rcases h2 with e | e
  · rw [e]; have := cnt_first e; simpa [beg] using this.1
  · rw [e]; have := cnt_second e; simpa [beg] using this.1
theorem sto_take (c r : List Int) (n k : Nat) (h : k ≤ n) : (sto c r n).take (k + 1) = [⟨((beg n (1 - which c n) : Nat) : Int), 0⟩] ++ body (beg n (1 - which c n)) r k := by
  unfold sto
  rw [List.take_append_of_le_length (by simp [body_len]; omega)]
  rw [List.take_append, List.take_of_length_le (by simp)]
  simp only [List.length_cons, List.length_nil]
  rw [show k + 1 - (0 + 1) = k by omega, body_take _ _ _ _ h]
/-- However few of the writes are done, but the last: the old record is there. -/
theorem store_cut {c r old : List Int} {n k : Nat} (h : Holds c n old) (hk : k < n + 2) : Holds (wrt c ((sto c r n).take k)) n old := by
  cases k with
  | zero => exact h
  | succ k =>
    rw [sto_take c r n k (by omega)]
    have hg := h.good
    have h2 : which c n = 0 ∨ which c n = 1 := by have := h.one; omega
    have hl := h.len
    have key : ∀ j, (wrt c ([⟨((beg n (1 - which c n) : Nat) : Int), 0⟩] ++ body (beg n (1 - which c n)) r k)).getD j 0 = if j = beg n (1 - which c n) then 0 else if beg n (1 - which c n) + 1 ≤ j ∧ j < beg n (1 - which c n) + 1 + k then r.getD (j - (beg n (1 - which c n) + 1)) 0 else c.getD j 0 := fun j => by
      have hb := beg_lt (n := n) (s := 1 - which c n) (by omega)
      exact cut_wrt c r _ k j (by omega)
    have hw : which (wrt c ([⟨((beg n (1 - which c n) : Nat) : Int), 0⟩] ++ body (beg n (1 - which c n)) r k)) n = which c n := by
      rw [which, key, key]
      rcases h2 with e | e
      · rw [e] at hg ⊢
        simp only [beg, Nat.zero_mul, Nat.sub_zero, Nat.one_mul] at hg ⊢
        rw [if_neg (by omega), if_neg (by omega), if_pos trivial]
        exact cnt_blank_second hg
      · rw [e] at hg ⊢
        simp only [beg, Nat.sub_self, Nat.zero_mul, Nat.one_mul] at hg ⊢
        rw [if_pos trivial, if_neg (by omega), if_neg (by omega)]
        exact cnt_blank_first hg
    refine ⟨by rw [wrt_len]; exact hl, by rw [hw]; exact h.one, ?_⟩
    rw [hw, ← h.is]
    refine list_ext (by rw [rcd_len, rcd_len]) fun j hj => ?_
    rw [rcd_len] at hj
    rw [rcd_at _ _ _ _ hj, rcd_at _ _ _ _ hj, key]
    rcases h2 with e | e
    · rw [e]
      simp only [beg, Nat.zero_mul, Nat.sub_zero, Nat.one_mul]
      rw [if_neg (by omega), if_neg (by omega)]
    · rw [e]
      simp only [beg, Nat.sub_self, Nat.zero_mul, Nat.one_mul]
      rw [if_neg (by omega), if_neg (by omega)]
/-- All of the writes: the new record is there. -/
theorem store_all {c r old : List Int} {n : Nat} (h : Holds c n old) (hr : r.length = n) : Holds (wrt c (sto c r n)) n r := by
  have hg := h.good
  have h2 : which c n = 0 ∨ which c n = 1 := by have := h.one; omega
  have hl := h.len
  have hb := beg_lt (n := n) (s := 1 - which c n) (by omega)
  have key : ∀ j, (wrt c (sto c r n)).getD j 0 = if j = beg n (1 - which c n) then behind (c.getD (beg n (which c n)) 0) else if beg n (1 - which c n) + 1 ≤ j ∧ j < beg n (1 - which c n) + 1 + n then r.getD (j - (beg n (1 - which c n) + 1)) 0 else c.getD j 0 := fun j => by
    unfold sto
    rw [wrt_app, wrt_one, set_at, cut_wrt c r _ n j (by omega), wrt_len]
    simp only [Int.toNat_natCast]
    by_cases e : j = beg n (1 - which c n)
    · rw [if_pos ⟨e, by omega⟩, if_pos e]
    · rw [if_neg (by omega), if_neg e, if_neg e]
  have hw : which (wrt c (sto c r n)) n = 1 - which c n := by
    rw [which, key, key]
    rcases h2 with e | e
    · rw [e] at hg ⊢
      simp only [beg, Nat.zero_mul, Nat.sub_zero, Nat.one_mul] at hg ⊢
      rw [if_neg (by omega), if_neg (by omega), if_pos trivial]
      exact cnt_new_second hg
    · rw [e] at hg ⊢
      simp only [beg, Nat.sub_self, Nat.zero_mul, Nat.one_mul] at hg ⊢
      rw [if_pos trivial, if_neg (by omega), if_neg (by omega)]
      exact cnt_new_first hg
  refine ⟨by rw [wrt_len]; exact hl, by rw [hw]; omega, ?_⟩
  rw [hw]
  refine list_ext (by rw [rcd_len, hr]) fun j hj => ?_
  rw [rcd_len] at hj
  rw [rcd_at _ _ _ _ hj, key, if_neg (by omega), if_pos (by omega)]
  congr 1; omega
/-- Fresh slots. -/
def fre (n : Nat) : List Int := 1 :: List.replicate (2 * n + 1) 0
theorem fre_holds (n : Nat) : Holds (fre n) n (List.replicate n 0) := by
  have hw : which (fre n) n = 0 := by
    have e : (fre n).getD (n + 1) 0 = 0 := by simp [fre, List.getD, show n < 2 * n + 1 by omega]
    rw [which, e]; rfl
  refine ⟨by simp [fre], by rw [hw]; omega, ?_⟩
  rw [hw]
  refine list_ext (by rw [rcd_len, List.length_replicate]) fun j hj => ?_
  rw [rcd_len] at hj
  rw [rcd_at _ _ _ _ hj]
  simp [fre, beg, List.getD, Nat.add_comm 1 j, hj, show j < 2 * n + 1 by omega]

end Go.Proofs.YtgipkpkjoicehaaGreatDoor.slot
