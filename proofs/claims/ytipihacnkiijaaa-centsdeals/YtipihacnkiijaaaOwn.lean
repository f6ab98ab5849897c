/- A row of numbers that a call owns while it sorts: what it holds, place by place; all else stands as it stood. -/
import Derived.Test.YtipihacnkiijaaaInts
import Derived.Deep.QuietTactic
import Derived.BigQuiet
namespace Go.Proofs.Ytipihacnkiijaaa.cents
open Go.RowKit

/-- In the world w block g holds the n numbers f; every other block is as it was in w0. -/
structure Own (w0 w : World) (g n : Nat) (f : Nat → Int) : Prop where
  os : w.os = w0.os
  tape : w.tape = w0.tape
  output : w.output = w0.output
  size : w.heap.size = w0.heap.size
  other : ∀ k, k ≠ g → w.heap[k]? = w0.heap[k]?
  row : w.heap[g]? = some (.cells ((List.range n).map fun i => Value.int .i64 (f i)).toArray 3 (0, 0))

def upd (f : Nat → Int) (i : Nat) (v : Int) : Nat → Int := fun k => if k = i then v else f k
def swp (f : Nat → Int) (i j : Nat) : Nat → Int := fun k => if k = i then f j else if k = j then f i else f k

variable {w0 w : World} {g n : Nat} {f : Nat → Int}

theorem Own.cell (h : Own w0 w g n f) {i : Nat} (hi : i < n) : w.cell? ⟨g, i, none⟩ = some (.int .i64 (f i)) := by
  simp [World.cell?, h.row, hi]

theorem Own.frozen (h : Own w0 w g n f) (i : Nat) : w.frozen? ⟨g, i, none⟩ = false := by
  simp [World.frozen?, h.row]

theorem Own.drew (h : Own w0 w g n f) : Own w0 w.drew g n f := ⟨h.os, h.tape, h.output, h.size, h.other, h.row⟩
theorem Own.drewN (h : Own w0 w g n f) (m : Nat) : Own w0 (w.drewN m) g n f := ⟨h.os, h.tape, h.output, h.size, h.other, h.row⟩

theorem Own.set (h : Own w0 w g n f) (i : Nat) (v : Int) : Own w0 (w.setCell ⟨g, i, none⟩ (.int .i64 v)) g n (upd f i v) := by
  refine ⟨h.os, h.tape, h.output, by simp [World.setCell, h.size], fun k hk => ?_, ?_⟩
  · rw [← h.other k hk]
    simp only [World.setCell, Array.getElem?_modify]
    rw [if_neg (fun e => hk e.symm)]
  · simp only [World.setCell, Array.getElem?_modify, h.row, if_true, Option.map_some]
    congr 2
    simp only [Option.isSome_none, Bool.false_eq_true, if_false]
    apply Array.ext'
    simp only [Array.toList_setIfInBounds]
    apply List.ext_getElem?
    intro k
    by_cases hk : k < n
    · by_cases e : k = i
      · subst e; simp [upd, hk]
      · rw [List.getElem?_set_ne (by omega)]; simp [upd, hk, e]
    · rw [List.getElem?_eq_none (by simp; omega), List.getElem?_eq_none (by simp; omega)]

theorem Own.congr (h : Own w0 w g n f) {f' : Nat → Int} (e : ∀ k, k < n → f k = f' k) : Own w0 w g n f' := by
  refine ⟨h.os, h.tape, h.output, h.size, h.other, ?_⟩
  rw [h.row]
  congr 3
  apply List.map_congr_left
  intro k hk
  rw [e k (by simpa using hk)]

/-- Two numbers change places. -/
theorem Own.swap (h : Own w0 w g n f) (i j : Nat) : Own w0 ((w.setCell ⟨g, i, none⟩ (.int .i64 (f j))).setCell ⟨g, j, none⟩ (.int .i64 (f i))) g n (swp f i j) := by
  refine ((h.set i (f j)).set j (f i)).congr fun k _ => ?_
  unfold upd swp
  by_cases h1 : k = j
  · by_cases h2 : k = i
    · subst h1; subst h2; simp
    · simp [h1]; intro e; rw [← e]
  · by_cases h2 : k = i
    · subst h2; simp [h1]
    · simp [h1, h2]

theorem swapRange_step (f : Nat → Int) (a b c i : Nat) (h1 : a + c ≤ b) (hlt : i < c) (k : Nat) (_hk : k < n) :
    swp (fun k => if a ≤ k ∧ k < a + i then f (k + (b - a)) else if b ≤ k ∧ k < b + i then f (k - (b - a)) else f k) (a + i) (b + i) k = (fun k => if a ≤ k ∧ k < a + (i + 1) then f (k + (b - a)) else if b ≤ k ∧ k < b + (i + 1) then f (k - (b - a)) else f k) k := by
  unfold swp
  by_cases e1 : k = a + i
  · subst e1
    rw [if_pos rfl]
    simp only []
    rw [if_neg (by omega), if_neg (by omega), if_pos (by omega)]
    congr 1; omega
  · rw [if_neg e1]
    by_cases e2 : k = b + i
    · subst e2
      rw [if_pos rfl]
      simp only []
      rw [if_neg (by omega), if_neg (by omega), if_neg (by omega), if_pos (by omega)]
      congr 1; omega
    · rw [if_neg e2]
      simp only []
      by_cases e3 : a ≤ k ∧ k < a + i
      · rw [if_pos e3, if_pos (show a ≤ k ∧ k < a + (i + 1) by omega)]
      · have e5 : ¬ (a ≤ k ∧ k < a + (i + 1)) := by omega
        by_cases e4 : b ≤ k ∧ k < b + i
        · rw [if_neg e3, if_pos e4, if_neg e5, if_pos (show b ≤ k ∧ k < b + (i + 1) by omega)]
        · rw [if_neg e3, if_neg e4, if_neg e5, if_neg (show ¬ (b ≤ k ∧ k < b + (i + 1)) by omega)]

set_option maxHeartbeats 1000000 in
theorem swapRange_any (cf : Value) (cap a b c : Nat) (f : Nat → Int) (w : World) (h : Own w0 w g n f) (h1 : a + c ≤ b) (h2 : b + c ≤ n) (hn : n ≤ 50) :
    Calls Try.prog 59 #[.slice (some ⟨g, 0, none⟩) n cap, .int .i64 a, .int .i64 b, .int .i64 c, cf] w fun e w' => e = .returned (.tuple #[]) ∧
      Own w0 w' g n (fun k => if a ≤ k ∧ k < a + c then f (k + (b - a)) else if b ≤ k ∧ k < b + c then f (k - (b - a)) else f k) := by
  go_enter Try.func59, Try.ntmps59
  go_wp2
  go_loopw [10] (fun v wr => ∃ i : Nat, i ≤ c ∧ v = .int .i64 i ∧ Own w0 wr g n (fun k => if a ≤ k ∧ k < a + i then f (k + (b - a)) else if b ≤ k ∧ k < b + i then f (k - (b - a)) else f k)) (fun v _ => c - (intOf v).toNat)
  case atStart => exact ⟨0, Nat.zero_le _, rfl, h.congr fun k _ => by rw [if_neg (by omega), if_neg (by omega)]⟩
  case round =>
    obtain ⟨i, hi, rfl, ho⟩ := hrel
    clear h
    by_cases hlt : i < c
    · have HF : Hid (∀ k, k < n → swp (fun k => if a ≤ k ∧ k < a + i then f (k + (b - a)) else if b ≤ k ∧ k < b + i then f (k - (b - a)) else f k) (a + i) (b + i) k = (fun k => if a ≤ k ∧ k < a + (i + 1) then f (k + (b - a)) else if b ≤ k ∧ k < b + (i + 1) then f (k - (b - a)) else f k) k) := swapRange_step f a b c i h1 hlt
      generalize (fun k => if a ≤ k ∧ k < a + i then f (k + (b - a)) else if b ≤ k ∧ k < b + i then f (k - (b - a)) else f k) = fi at *
      have c1 := ho.cell (i := b + i) (by omega)
      have c2 := ho.cell (i := a + i) (by omega)
      have f1 := ho.frozen (b + i)
      have f2 := ho.frozen (a + i)
      have hs := (ho.swap (a + i) (b + i)).drew
      have HS : Hid (Own w0 ((wr.setCell ⟨g, a + i, none⟩ (.int .i64 (fi (b + i)))).setCell ⟨g, b + i, none⟩ (.int .i64 (fi (a + i)))).drew g n (swp fi (a + i) (b + i))) := hs
      clear hs ho
      generalize fi (a + i) = x at *
      generalize fi (b + i) = y at *
      go_wp2
      go_region
      go_wp2
      go_roundw
      case rel => exact ⟨i + 1, by omega, by go_num, HS.out.congr HF.out⟩
      case measure => simp [intOf]; omega
    · go_wp2
      go_end0
      exact ⟨rfl, ho.congr fun k _ => by rw [show i = c by omega]⟩

end Go.Proofs.Ytipihacnkiijaaa.cents
