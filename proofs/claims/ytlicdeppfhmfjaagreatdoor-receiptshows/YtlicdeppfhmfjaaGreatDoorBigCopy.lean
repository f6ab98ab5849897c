/- Words laid over the head of a row by copy; what the long division's walk needs of left. -/
import Derived.Test.YtlicdeppfhmfjaaGreatDoorBigLong
import Derived.Laws.CopyOwn
namespace Go.Proofs.YtlicdeppfhmfjaaGreatDoor.words
open Go.RowKit
set_option maxRecDepth 100000

theorem left0_any (a : Option Addr) (n ca s m : Nat) (w : World) (ha : Ru w a n ca (dig m)) (hn : n ≤ 100) (hs : s < 32) :
    Calls Tryz.prog 151 #[.slice a n ca, .int .u64 (s : Int)] w fun e w' => Gives w (m * 2 ^ s) e w' := by
  have := left_any a n ca 0 s (dig m) w ha hn (by omega) hs
  rwa [nv_dig, Nat.mul_zero, Nat.zero_add] at this

/-- How a row of words stands when others have been laid over its head. -/
theorem rowU_copied {w : World} {g N n : Nat} {l : List Nat} (hl : l.length = n) (hn : n ≤ N) (h : w.heap[g]? = some (.cells (((List.range N).map fun _ => Value.int .u32 0).take 0 ++ (l.map fun (x : Nat) => Value.int .u32 (x : Int)) ++ ((List.range N).map fun _ => Value.int .u32 0).drop (0 + (l.map fun (x : Nat) => Value.int .u32 (x : Int)).length)).toArray 83 (0, 0))) : RowU w g N (fun i => l.getD i 0) := by
  unfold RowU
  rw [h]
  congr 3
  apply List.ext_getElem?
  intro i
  by_cases hi : i < n
  · rw [List.take_zero, List.nil_append, List.getElem?_append_left (by simp; omega)]
    simp [List.getD, List.getElem?_eq_getElem (show i < l.length by omega), show i < N by omega]
  · rw [List.take_zero, List.nil_append, List.getElem?_append_right (by simp; omega)]
    by_cases hiN : i < N
    · have e : 0 + (l.map fun (x : Nat) => Value.int .u32 (x : Int)).length + (i - (l.map fun (x : Nat) => Value.int .u32 (x : Int)).length) = i := by simp; omega
      rw [List.getElem?_drop, e]
      simp [List.getD, List.getElem?_eq_none (show l.length ≤ i by omega), hiN]
    · rw [List.getElem?_eq_none (by simp; omega), List.getElem?_eq_none (by simp; omega)]

theorem left_len {M s n : Nat} (hn : (dig M).length = n) (hs : s < 32) : (dig (M * 2 ^ s)).length ≤ n + 1 := by
  apply dig_len
  have h1 := dig_low M
  rw [hn] at h1
  have h2 : 2 ^ s ≤ 2 ^ 32 := Nat.pow_le_pow_right (by decide) (by omega)
  rw [Nat.pow_succ]
  have h3 : M * 2 ^ s ≤ M * 4294967296 := Nat.mul_le_mul_left _ h2
  exact Nat.lt_of_le_of_lt h3 (Nat.mul_lt_mul_of_pos_right h1 (by decide))

/-- Words that lie in another block than the one that turns. -/
theorem Ru.apart {w w' : World} {z : Nat} {a : Option Addr} {n cap : Nat} {l : List Nat} (h : Ru w a n cap l) (he : Ex w w' z) (hne : ∀ b off, a = some ⟨b, off, none⟩ → b ≠ z) : Ru w' a n cap l := by
  refine ⟨h.len, h.lt, h.nil, h.room, ?_, fun b off s e hn => (h.typ b off s e hn).same (he.block b (h.typ b off s e hn).lt (by
    rcases h.cell with h0 | ⟨b', off', e', _⟩
    · exact absurd h0 hn
    · rw [e'] at e
      obtain ⟨rfl, rfl, rfl⟩ := (by simpa using e : b' = b ∧ off' = off ∧ none = s)
      exact hne _ _ e'))⟩
  rcases h.cell with h0 | ⟨b, off, rfl, hc⟩
  · exact .inl h0
  · refine .inr ⟨b, off, rfl, fun i hi => ?_⟩
    have h1 := hc i hi
    rw [World.cell?_of_block (w := w) (a := ⟨b, off + i, none⟩) (he.block b (World.block_lt_of_cell? w _ h1) (hne b off rfl))]
    exact h1
theorem Ru.lies {w : World} {a : Option Addr} {n cap : Nat} {l : List Nat} (h : Ru w a n cap l) (h0 : 0 < n) : ∀ b off, a = some ⟨b, off, none⟩ → b < w.heap.size := by
  intro b off e
  obtain ⟨b', off', e', hc⟩ := h.at (i := 0) h0
  rw [e] at e'
  simp only [Option.some.injEq, Addr.mk.injEq, and_true] at e'
  rw [e'.1]
  exact World.block_lt_of_cell? w _ hc

/-- copy of words over a row of noughts. -/
theorem copy_words (a : Option Addr) (n cap N g : Nat) (l : List Nat) (w : World) (h : Ru w a n cap l) (n0 : 0 < n) (hn : n ≤ N) (hr : RowU w g N (fun _ => 0)) :
    ∃ w', (Builtin.copy_ #[102, 102] 3 #[.slice (some ⟨g, 0, none⟩) N N, .slice a n cap]).run Tryz.prog w = .ok (.int .i64 (n : Int)) w' ∧ RowU w' g N (fun i => l.getD i 0) ∧ Ex w w' g := by
  obtain ⟨b, off, rfl, -⟩ := h.at n0
  have hc : ∀ i, i < n → w.cell? ⟨b, off + i, none⟩ = some (.int .u32 ((l.getD i 0 : Nat) : Int)) := by
    rcases h.cell with h0 | ⟨b', off', e, hc⟩
    · omega
    · simp only [Option.some.injEq, Addr.mk.injEq, and_true] at e
      obtain ⟨rfl, rfl⟩ := e
      exact hc
  have hrun := run_copy_row (P := Tryz.prog) w 102 102 3 83 g 0 N N ⟨b, off, none⟩ n cap ((List.range N).map fun _ => Value.int .u32 0).toArray 83 (l.map fun (x : Nat) => Value.int .u32 (x : Int)) Tryz.underlying102 (by kernel_rfl) hr (by
      rw [List.length_map, h.len]; exact (Nat.min_eq_left hn).symm) (by
      intro j u hu
      by_cases hj : j < l.length
      · simp [List.getElem?_eq_getElem hj] at hu
        subst hu
        have := hc j (by rw [h.len] at hj; exact hj)
        simpa [Addr.add_lit, List.getD, List.getElem?_eq_getElem hj] using this
      · rw [List.getElem?_eq_none (by simp; omega)] at hu; cases hu) (by simp [h.len]; omega) (by
      intro u hu; obtain ⟨z, _, rfl⟩ := List.mem_map.1 hu; rfl)
  refine ⟨_, ?_, rowU_copied (n := n) h.len hn (setRow_heap w g _ _ 83 _ hr), rfl, rfl, rfl, by simp [World.setRow], fun k _ hk => setRow_other w g k _ hk⟩
  rw [hrun]
  simp [goInt, h.len]

end Go.Proofs.YtlicdeppfhmfjaaGreatDoor.words
