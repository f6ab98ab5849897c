/- What is left is given away one by one: the place that comes next, and two rows that a call owns. -/
import Derived.Test.YtipihacnkiijaaaDealRule
import Derived.Test.YtipihacnkiijaaaIn
namespace Go.Proofs.Ytipihacnkiijaaa.cents
open Go.RowKit

/-- Of the first k places v is the first one that was not had of which most is told; -1: all were had. -/
def Best (key : Int → Int) (d : Nat → Bool) (k : Nat) (v : Int) : Prop :=
  (v = -1 ∧ ∀ i, i < k → d i = true) ∨ (∃ b : Nat, v = (b : Int) ∧ b < k ∧ d b = false ∧ ∀ i : Nat, i < k → d i = false → key (i : Int) < key (b : Int) ∨ (key (i : Int) = key (b : Int) ∧ b ≤ i))

theorem best_zero (key : Int → Int) (d : Nat → Bool) : Best key d 0 (-1) := .inl ⟨rfl, fun i hi => by omega⟩
theorem best_skip {key : Int → Int} {d : Nat → Bool} {k : Nat} {v : Int} (h : Best key d k v) (hd : d k = true) : Best key d (k + 1) v := by
  rcases h with ⟨h1, h2⟩ | ⟨b, h1, h2, h3, h4⟩
  · refine .inl ⟨h1, fun i hi => ?_⟩
    by_cases e : i = k
    · rw [e, hd]
    · exact h2 i (by omega)
  · refine .inr ⟨b, h1, by omega, h3, fun i hi hdi => ?_⟩
    by_cases e : i = k
    · rw [e, hd] at hdi; cases hdi
    · exact h4 i (by omega) hdi
theorem best_first {key : Int → Int} {d : Nat → Bool} {k : Nat} (h : ∀ i, i < k → d i = true) (hd : d k = false) : Best key d (k + 1) (k : Int) := by
  refine .inr ⟨k, rfl, by omega, hd, fun i hi hdi => ?_⟩
  by_cases e : i = k
  · subst e; exact .inr ⟨rfl, Nat.le_refl _⟩
  · rw [h i (by omega)] at hdi; cases hdi
theorem best_more {key : Int → Int} {d : Nat → Bool} {k b : Nat} (h4 : ∀ i : Nat, i < k → d i = false → key (i : Int) < key (b : Int) ∨ (key (i : Int) = key (b : Int) ∧ b ≤ i)) (hd : d k = false) (hk : key (b : Int) < key (k : Int)) : Best key d (k + 1) (k : Int) := by
  refine .inr ⟨k, rfl, by omega, hd, fun i hi hdi => ?_⟩
  by_cases e : i = k
  · subst e; exact .inr ⟨rfl, Nat.le_refl _⟩
  · have := h4 i (by omega) hdi
    omega
theorem best_less {key : Int → Int} {d : Nat → Bool} {k b : Nat} (h2 : b < k) (h3 : d b = false) (h4 : ∀ i : Nat, i < k → d i = false → key (i : Int) < key (b : Int) ∨ (key (i : Int) = key (b : Int) ∧ b ≤ i)) (hk : ¬ key (b : Int) < key (k : Int)) : Best key d (k + 1) (b : Int) := by
  refine .inr ⟨b, rfl, by omega, h3, fun i hi hdi => ?_⟩
  by_cases e : i = k
  · subst e; omega
  · exact h4 i (by omega) hdi

/-- The places that were had when t were given away. -/
def hadOf (f : Nat → Int) (t : Nat) : Nat → Bool := fun i => decide (bump f t i ≠ 0)

theorem best_end {key : Int → Int} {f : Nat → Int} {n t : Nat} {v : Int} (hm : Mix idz f 0 n) (hs : Srt key f 0 n) (ht : t < n) (h : Best key (hadOf f t) n v) : v = f t := by
  have hb := in0_of hm t ht
  obtain ⟨p, hp⟩ := Int.eq_ofNat_of_zero_le hb.1
  have hnh : hadOf f t p = false := by
    unfold hadOf
    rcases bump_cases (i := p) hs (t := t) (by omega) with h0 | ⟨_, k, hk, e⟩
    · simp [h0]
    · have := inj_of hs (i := k) (j := t) (by omega) ht (by rw [e, hp])
      omega
  rcases h with ⟨_, h2⟩ | ⟨b, h1, h2, h3, h4⟩
  · have := h2 p (by omega)
    rw [hnh] at this; cases this
  · have h5 := h4 p (by omega) hnh
    obtain ⟨q, _, hq, eq⟩ := hm.to b (Nat.zero_le _) h2
    have eq' : f q = (b : Int) := eq
    have hqt : t ≤ q := by
      by_cases hh : q < t
      · have := bump_one (i := b) hs (t := t) (by omega) hh eq'
        unfold hadOf at h3
        simp [this] at h3
      · omega
    by_cases e : q = t
    · subst e; rw [h1, eq']
    · have h6 := hs t q (Nat.zero_le _) (by omega) hq
      unfold Lo at h6
      rw [eq', hp] at h6
      omega

theorem had_step {f : Nat → Int} {t p : Nat} (hp : f t = (p : Int)) (i : Nat) : hadOf f (t + 1) i = if i = p then true else hadOf f t i := by
  unfold hadOf
  rw [bump]
  by_cases e : i = p
  · subst e
    rw [if_pos rfl, if_pos hp]
    have := (bump_bd f t i).1
    simp; omega
  · rw [if_neg e, if_neg (by omega)]
    simp

/-- Two rows that a call owns: n numbers in block G, n truths in block H; all that was there stands. -/
structure Two (w wr : World) (G H n : Nat) (o : Nat → Int) (d : Nat → Bool) : Prop where
  below : Below w.heap.size w wr
  rg : wr.heap[G]? = some (.cells ((List.range n).map fun i => Value.int .i64 (o i)).toArray 3 (0, 0))
  rh : wr.heap[H]? = some (.cells ((List.range n).map fun i => Value.bool (d i)).toArray 4 (0, 0))

variable {w wr : World} {G H n : Nat} {o : Nat → Int} {d : Nat → Bool}

theorem Two.cellG (h : Two w wr G H n o d) {i : Nat} (hi : i < n) : wr.cell? ⟨G, i, none⟩ = some (.int .i64 (o i)) := by simp [World.cell?, h.rg, hi]
theorem Two.cellH (h : Two w wr G H n o d) {i : Nat} (hi : i < n) : wr.cell? ⟨H, i, none⟩ = some (.bool (d i)) := by simp [World.cell?, h.rh, hi]
theorem Two.frozenG (h : Two w wr G H n o d) (i : Nat) : wr.frozen? ⟨G, i, none⟩ = false := by simp [World.frozen?, h.rg]
theorem Two.frozenH (h : Two w wr G H n o d) (i : Nat) : wr.frozen? ⟨H, i, none⟩ = false := by simp [World.frozen?, h.rh]
theorem Two.drewN (h : Two w wr G H n o d) (m : Nat) : Two w (wr.drewN m) G H n o d := ⟨⟨h.below.os, h.below.tape, h.below.output, h.below.size, h.below.block⟩, h.rg, h.rh⟩
theorem Two.congr (h : Two w wr G H n o d) {o' : Nat → Int} {d' : Nat → Bool} (e : ∀ k, k < n → o k = o' k) (e' : ∀ k, k < n → d k = d' k) : Two w wr G H n o' d' := by
  refine ⟨h.below, ?_, ?_⟩
  · rw [h.rg]; congr 3; apply List.map_congr_left; intro k hk; rw [e k (by simpa using hk)]
  · rw [h.rh]; congr 3; apply List.map_congr_left; intro k hk; rw [e' k (by simpa using hk)]

theorem set_range {α : Type} (g : Nat → Value) (n i : Nat) (v : Value) (g' : Nat → Value) (hg : ∀ k, k < n → g' k = if k = i then v else g k) (_ : α) :
    (((List.range n).map g).toArray.setIfInBounds i v) = ((List.range n).map g').toArray := by
  apply Array.ext'
  simp only [Array.toList_setIfInBounds]
  apply List.ext_getElem?
  intro k
  by_cases hk : k < n
  · by_cases e : k = i
    · subst e; simp [hk, hg k hk]
    · rw [List.getElem?_set_ne (by omega)]; simp [hk, hg k hk, e]
  · rw [List.getElem?_eq_none (by simp; omega), List.getElem?_eq_none (by simp; omega)]

theorem Two.setG (h : Two w wr G H n o d) (hG : w.heap.size ≤ G) (hGH : G ≠ H) (i : Nat) (v : Int) : Two w (wr.setCell ⟨G, i, none⟩ (.int .i64 v)) G H n (upd o i v) d := by
  refine ⟨⟨h.below.os, h.below.tape, h.below.output, by simp [World.setCell]; exact h.below.size, fun k hk => ?_⟩, ?_, ?_⟩
  · rw [← h.below.block k hk]
    simp only [World.setCell, Array.getElem?_modify]
    rw [if_neg (by omega)]
  · simp only [World.setCell, Array.getElem?_modify, h.rg, if_true, Option.map_some]
    congr 2
    simp only [Option.isSome_none, Bool.false_eq_true, if_false]
    exact set_range _ n i _ _ (fun k _ => by unfold upd; split <;> rfl) ()
  · simp only [World.setCell, Array.getElem?_modify]
    rw [if_neg hGH]; exact h.rh
theorem Two.setH (h : Two w wr G H n o d) (hH : w.heap.size ≤ H) (hGH : G ≠ H) (i : Nat) (v : Bool) : Two w (wr.setCell ⟨H, i, none⟩ (.bool v)) G H n o (fun k => if k = i then v else d k) := by
  refine ⟨⟨h.below.os, h.below.tape, h.below.output, by simp [World.setCell]; exact h.below.size, fun k hk => ?_⟩, ?_, ?_⟩
  · rw [← h.below.block k hk]
    simp only [World.setCell, Array.getElem?_modify]
    rw [if_neg (by omega)]
  · simp only [World.setCell, Array.getElem?_modify]
    rw [if_neg (fun e => hGH e.symm)]; exact h.rg
  · simp only [World.setCell, Array.getElem?_modify, h.rh, if_true, Option.map_some]
    congr 2
    simp only [Option.isSome_none, Bool.false_eq_true, if_false]
    exact set_range _ n i _ _ (fun k _ => by split <;> rfl) ()

end Go.Proofs.Ytipihacnkiijaaa.cents
