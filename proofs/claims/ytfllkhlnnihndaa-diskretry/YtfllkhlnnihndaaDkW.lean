/- Disks: words, and how much room there is. -/
import Derived.Test.YtfllkhlnnihndaaDkN
import Derived.Test.YtfllkhlnnihndaaRRow
import Derived.Test.YtfllkhlnnihndaaWWord
namespace Go.Proofs.Ytfllkhlnnihndaa.disk
open Go.RowKit Go.Proofs.Ytfllkhlnnihndaa.cell
set_option maxRecDepth 100000
set_option linter.unusedVariables false

/-- Words. -/
def Wds (c : List Int) : Prop := ∀ x ∈ c, 0 ≤ x ∧ x < 4294967296
theorem wds_nil : Wds [] := fun x hx => by cases hx
theorem wds_app {a b : List Int} (ha : Wds a) (hb : Wds b) : Wds (a ++ b) := fun x hx => by
  rcases List.mem_append.1 hx with h | h
  · exact ha x h
  · exact hb x h
theorem wds_zero (n : Nat) : Wds (List.replicate n 0) := fun x hx => by
  rw [(List.mem_replicate.1 hx).2]; decide
theorem wds_at {c : List Int} (h : Wds c) (j : Nat) : 0 ≤ c.getD j 0 ∧ c.getD j 0 < 4294967296 := by
  by_cases hj : j < c.length
  · have e : c.getD j 0 = c[j] := by simp [List.getD, List.getElem?_eq_getElem hj]
    rw [e]; exact h _ (List.getElem_mem hj)
  · have e : c.getD j 0 = 0 := by simp [List.getD, List.getElem?_eq_none (Nat.le_of_not_lt hj)]
    rw [e]; decide
theorem wds_set {c : List Int} (h : Wds c) (k : Nat) (x : Int) (hx : 0 ≤ x ∧ x < 4294967296) : Wds (c.set k x) := fun y hy => by
  rcases List.mem_or_eq_of_mem_set hy with hy | rfl
  · exact h y hy
  · exact hx
def WrsOk (l : List Wr) : Prop := ∀ e ∈ l, 0 ≤ e.d ∧ e.d < 4294967296
theorem wds_wrt {c : List Int} (h : Wds c) (l : List Wr) (hl : WrsOk l) : Wds (wrt c l) := by
  induction l generalizing c with
  | nil => exact h
  | cons e l ih => exact ih (wds_set h _ _ (hl e List.mem_cons_self)) fun x hx => hl x (List.mem_cons_of_mem _ hx)
theorem wrs_put {r : List Int} (hr : Wds r) (a k : Nat) : WrsOk (putW a r k) := by
  induction k with
  | zero => intro e he; cases he
  | succ k ih =>
    intro e he
    rcases List.mem_append.1 he with h | h
    · exact ih e h
    · rw [List.mem_singleton.1 h]; exact wds_at hr k
theorem wrs_app {c r : List Int} (hr : Wds r) (hm : RMay r) (a : Nat) : WrsOk (appW c a r) := by
  intro e he
  unfold appW at he
  rcases List.mem_append.1 he with h | h
  · exact wrs_put hr a _ e h
  · rcases List.mem_append.1 h with h | h
    · unfold zeroW at h
      split at h
      · rw [List.mem_singleton.1 h]; exact ⟨Int.le_refl _, by show (0 : Int) < 4294967296; decide⟩
      · cases h
    · rw [List.mem_singleton.1 h]
      have := hm.2
      exact ⟨by show (0 : Int) ≤ (r.length : Int); omega, by show (r.length : Int) < _; omega⟩
theorem wrs_take {l : List Wr} (h : WrsOk l) (k : Nat) : WrsOk (l.take k) := fun e he => h e (List.mem_of_mem_take he)
/-- Where the writes of a record go. -/
theorem put_in {r : List Int} (a k n : Nat) (hn : a + k < n) : cell.allN n (putW a r k) = true := by
  induction k with
  | zero => rfl
  | succ k ih => exact cell.allN_snoc (ih (by omega)) ⟨by show (0 : Int) ≤ ((a + k + 1 : Nat) : Int); omega, by show ((a + k + 1 : Nat) : Int) < (n : Int); omega⟩
theorem app_in (c r : List Int) (a : Nat) (h : a + r.length < c.length) : cell.allN c.length (appW c a r) = true := by
  unfold appW
  rw [← List.append_assoc]
  refine cell.allN_snoc ?_ ⟨by show (0 : Int) ≤ (a : Int); omega, by show (a : Int) < (c.length : Int); omega⟩
  unfold zeroW
  split
  · exact cell.allN_snoc (put_in a _ _ h) ⟨by show (0 : Int) ≤ ((a + r.length + 1 : Nat) : Int); omega, by show ((a + r.length + 1 : Nat) : Int) < (c.length : Int); omega⟩
  · rw [List.append_nil]; exact put_in a _ _ h
theorem put_ge (r : List Int) (a k : Nat) : ∀ e ∈ putW a r k, (a : Int) ≤ e.p := by
  induction k with
  | zero => intro e he; cases he
  | succ k ih =>
    intro e he
    rcases List.mem_append.1 he with h | h
    · exact ih e h
    · rw [List.mem_singleton.1 h]; show (a : Int) ≤ ((a + k + 1 : Nat) : Int); omega
theorem app_ge (c r : List Int) (a : Nat) : ∀ e ∈ appW c a r, (a : Int) ≤ e.p := by
  intro e he
  unfold appW at he
  rcases List.mem_append.1 he with h | h
  · exact put_ge r a _ e h
  · rcases List.mem_append.1 h with h | h
    · unfold zeroW at h
      split at h
      · rw [List.mem_singleton.1 h]; show (a : Int) ≤ ((a + r.length + 1 : Nat) : Int); omega
      · cases h
    · rw [List.mem_singleton.1 h]; exact Int.le_refl _
/-- How many words records take. -/
def sumR : List (List Int) → Nat
  | [] => 0
  | z :: l => z.length + 1 + sumR l
theorem sumR_app (a b : List (List Int)) : sumR (a ++ b) = sumR a + sumR b := by
  induction a with
  | nil => simp [sumR]
  | cons z a ih => simp only [List.cons_append, sumR, ih]; omega
theorem sumR_snoc (a : List (List Int)) (z : List Int) : sumR (a ++ [z]) = sumR a + (z.length + 1) := by rw [sumR_app]; rfl
theorem takeR_one (l : List (List Int)) (k : Nat) (hk : k < l.length) : l.take (k + 1) = l.take k ++ [l.getD k []] := by
  rw [List.take_add_one]
  simp [List.getD, List.getElem?_eq_getElem hk]
theorem sumR_take (l : List (List Int)) (k : Nat) (hk : k < l.length) : sumR (l.take (k + 1)) = sumR (l.take k) + ((l.getD k []).length + 1) := by
  rw [takeR_one l k hk, sumR_snoc]
theorem sumR_le (l : List (List Int)) (k : Nat) : sumR (l.take k) ≤ sumR l := by
  have e := sumR_app (l.take k) (l.drop k)
  rw [List.take_append_drop] at e
  omega
/-- Records that may be: 1 to 20 words. -/
def RecsOk (l : List (List Int)) : Prop := ∀ z ∈ l, Wds z ∧ 1 ≤ z.length ∧ z.length ≤ 20
theorem recsOk_at {l : List (List Int)} (h : RecsOk l) (k : Nat) (hk : k < l.length) : Wds (l.getD k []) ∧ 1 ≤ (l.getD k []).length ∧ (l.getD k []).length ≤ 20 := by
  have e : l.getD k [] = l[k] := by simp [List.getD, List.getElem?_eq_getElem hk]
  rw [e]; exact h _ (List.getElem_mem hk)
theorem recsOk_snoc {l : List (List Int)} (h : RecsOk l) {z : List Int} (hz : Wds z ∧ 1 ≤ z.length ∧ z.length ≤ 20) : RecsOk (l ++ [z]) := fun y hy => by
  rcases List.mem_append.1 hy with hy | hy
  · exact h y hy
  · rw [List.mem_singleton.1 hy]; exact hz
theorem sumR_most {l : List (List Int)} (h : RecsOk l) : sumR l ≤ l.length * 21 := by
  induction l with
  | nil => exact Nat.le_refl _
  | cons z l ih =>
    have h1 := ih fun y hy => h y (List.mem_cons_of_mem _ hy)
    have h2 := (h z List.mem_cons_self).2.2
    simp only [sumR, List.length_cons]; omega
/-- The slices have room for what they hold. -/
def Room (sl : List Sli) : Prop := ∀ s ∈ sl, s.n ≤ s.c ∧ s.n ≤ 20
theorem Room.at {sl : List Sli} (h : Room sl) (i : Nat) (hi : i < sl.length) : (sl.getD i sl0).n ≤ (sl.getD i sl0).c ∧ (sl.getD i sl0).n ≤ 20 := by
  have e : sl.getD i sl0 = sl[i] := by simp [List.getD, List.getElem?_eq_getElem hi]
  rw [e]; exact h _ (List.getElem_mem hi)
theorem Room.snoc {sl : List Sli} (h : Room sl) {s : Sli} (hs : s.n ≤ s.c ∧ s.n ≤ 20) : Room (sl ++ [s]) := fun y hy => by
  rcases List.mem_append.1 hy with hy | hy
  · exact h y hy
  · rw [List.mem_singleton.1 hy]; exact hs
/-- A disk in memory. -/
structure Dsk (w : World) (a : Option Addr) (n cap : Nat) (c : List Int) : Prop where
  row : cell.RowU w a n c
  nil : a = none → cap = 0
  room : n ≤ cap
  wds : Wds c
theorem Dsk.below {w w' : World} {a : Option Addr} {n cap : Nat} {c : List Int} (h : Dsk w a n cap c) (hb : Below w.heap.size w w') : Dsk w' a n cap c := ⟨h.row.below hb, h.nil, h.room, h.wds⟩
/-- Rows of words that came in. -/
def RwsW (w : World) (a : Option Addr) (len : Nat) (A : Nat → Option Addr) (L C : Nat → Nat) (Z : Nat → List Int) : Prop :=
  ∀ i, i < len → ∃ b off, a = some ⟨b, off, none⟩ ∧ w.cell? ⟨b, off + i, none⟩ = some (.slice (A i) (L i) (C i)) ∧ cell.RowU w (A i) (L i) (Z i) ∧ Wds (Z i)
theorem rwsW_of {w : World} {x : Addr} {len cap : Nat} {A : Nat → Option Addr} {L C : Nat → Nat} {Z : Nat → List Int} (hl : len ≤ cap)
    (h : ∀ r, r < cap → w.cell? (x.add r) = some (.slice (A r) (L r) (C r)) ∧ L r ≤ C r ∧ C r ≤ maxLen ∧ (Z r).length = C r ∧ (∀ n ∈ Z r, (Lit.int .u32 n).wf = true) ∧ (A r = none → C r = 0) ∧
        ∀ a', A r = some a' → 0 ≤ a'.block ∧ ∀ c, c < C r → w.cell? (a'.add c) = some (.int .u32 ((Z r).getD c 0))) :
    RwsW w (some x) len A L C (fun r => (Z r).take (L r)) := by
  intro i hi
  obtain ⟨h1, h2, _, h4, h5, h6, h7⟩ := h i (by omega)
  have hx0 := (h 0 (by omega)).1
  obtain ⟨b, off, spot⟩ := x
  have hs : spot = none := by simpa [Addr.add] using World.cell?_spot hx0
  subst hs
  rw [Addr.add_lit] at h1
  refine ⟨b, off, rfl, h1, ⟨by show ((Z i).take (L i)).length = L i; rw [List.length_take, h4]; omega, ?_⟩, fun y hy => cell.word_of (h5 y (List.mem_of_mem_take hy))⟩
  by_cases h0 : L i = 0
  · exact .inl h0
  · right
    cases ha : A i with
    | none => have := h6 ha; omega
    | some a' =>
      obtain ⟨_, hc⟩ := h7 a' ha
      obtain ⟨b', off', spot'⟩ := a'
      have hs : spot' = none := by simpa [Addr.add] using World.cell?_spot (hc 0 (by omega))
      subst hs
      refine ⟨b', off', rfl, fun j hj => ?_⟩
      have := hc j (by omega)
      rw [Addr.add_lit] at this
      rw [this]
      congr 2
      simp [hj]
theorem RwsW.below {w w' : World} {a : Option Addr} {len : Nat} {A : Nat → Option Addr} {L C : Nat → Nat} {Z : Nat → List Int} (h : RwsW w a len A L C Z) (hb : Below w.heap.size w w') : RwsW w' a len A L C Z := fun i hi => by
  obtain ⟨b, off, h1, h2, h3, h4⟩ := h i hi
  exact ⟨b, off, h1, (hb.cell (p := ⟨b, off + i, none⟩) (World.block_lt_of_cell? w _ h2)).trans h2, h3.below hb, h4⟩

end Go.Proofs.Ytfllkhlnnihndaa.disk
