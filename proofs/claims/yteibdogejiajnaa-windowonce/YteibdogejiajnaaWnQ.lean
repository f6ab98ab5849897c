/- The numbers that are known. -/
import Derived.Test.YteibdogejiajnaaWnK
namespace Go.Proofs.Yteibdogejiajnaa.win
open Go.RowKit Go.Proofs.Yteibdogejiajnaa.irow Go.Proofs.Yteibdogejiajnaa.check
set_option maxRecDepth 100000
set_option linter.unusedVariables false

/-- How many of a list lie below j. -/
def cn (l : List Int) (j : Int) : Nat := (l.filter (fun x => decide (x < j))).length
theorem cn_start {l : List Int} (h : ∀ x ∈ l, 1 ≤ x) : cn l 1 = 0 := by
  unfold cn
  rw [List.filter_eq_nil_iff.2 (fun x hx => by have := h x hx; simp; omega)]
  rfl
theorem cn_end {l : List Int} {j : Int} (h : ∀ x ∈ l, x < j) : cn l j = l.length := by
  unfold cn
  rw [List.filter_eq_self.2 (fun x hx => by have := h x hx; simpa using this)]
theorem cn_out {l : List Int} {j : Int} (h : j ∉ l) : cn l (j + 1) = cn l j := by
  unfold cn
  congr 1
  refine List.filter_congr fun x hx => ?_
  have : x ≠ j := fun e => h (e ▸ hx)
  have e : (x < j + 1) ↔ (x < j) := by omega
  exact decide_eq_decide.2 e
theorem cn_in {l : List Int} (hr : l.Pairwise (· < ·)) {j : Int} (h : j ∈ l) : cn l j < l.length ∧ l.getD (cn l j) 0 = j ∧ cn l (j + 1) = cn l j + 1 := by
  induction l with
  | nil => cases h
  | cons a l ih =>
    rw [List.pairwise_cons] at hr
    by_cases ha : a < j
    · have hj : j ∈ l := by
        rcases List.mem_cons.1 h with e | e
        · omega
        · exact e
      obtain ⟨h1, h2, h3⟩ := ih hr.2 hj
      have e1 : cn (a :: l) j = cn l j + 1 := by simp [cn, ha]
      have e2 : cn (a :: l) (j + 1) = cn l (j + 1) + 1 := by simp [cn, show a < j + 1 by omega]
      rw [e1, e2]
      refine ⟨by simp; omega, ?_, by omega⟩
      rw [List.getD_cons_succ]; exact h2
    · have hj : a = j := by
        rcases List.mem_cons.1 h with e | e
        · exact e.symm
        · have := hr.1 j e; omega
      subst hj
      have e0 : ∀ x ∈ l, ¬ x < a + 1 := fun x hx => by have := hr.1 x hx; omega
      have e1 : cn (a :: l) a = 0 := by
        unfold cn
        rw [List.filter_eq_nil_iff.2 (fun x hx => ?_)]
        · rfl
        · rcases List.mem_cons.1 hx with e | e
          · subst e; simp
          · have := e0 x e; simp; omega
      have e2 : cn (a :: l) (a + 1) = 1 := by
        unfold cn
        rw [List.filter_cons_of_pos (by simp; omega), List.filter_eq_nil_iff.2 (fun x hx => by have := e0 x hx; simp; omega)]
        rfl
      rw [e1, e2]
      exact ⟨by simp, rfl, rfl⟩

/-- A row of yes and no in a block of its own. -/
def arrB (ts : List Bool) : Array Value := (ts.map Value.bool).toArray
theorem arrB_set (ts : List Bool) (i : Nat) (v : Bool) : (arrB ts).setIfInBounds i (.bool v) = arrB (ts.set i v) := by
  unfold arrB
  apply Array.ext'
  simp [List.map_set]
theorem Blk.yes {w : World} {G : Nat} {ts : List Bool} {t : TypeId} (h : Blk w G (arrB ts) t) (i : Nat) (hi : i < ts.length) : w.cell? ⟨G, i, none⟩ = some (.bool (ts.getD i false)) := by
  rw [h.cell i]
  unfold arrB
  simp [List.getD, hi]
theorem info_bool : (Try.prog.info? 4).map (fun i => (i.zero, i.size, i.bytes)) = some (some (.bool false), 1, 1) := by kernel_rfl
theorem made_no (n : Nat) : madeCells (Value.bool false).cells (n * 1) = arrB (List.replicate n false) := by
  unfold madeCells arrB
  apply Array.ext'
  simp [Value.cells]
  apply List.ext_getElem
  · simp
  · intro i h1 h2
    simp [Nat.mod_one]
theorem make_bool (n : Nat) (h : n ≤ 100000) (w : World) : (Instr.makeSlice 37 (.int .i64 (n : Int)) (.int .i64 (n : Int))).run Try.prog w = .ok (.slice (some ⟨w.heap.size, 0, none⟩) n n) (w.alloc (.cells (arrB (List.replicate n false)) 4)) := by
  obtain ⟨i0, hi, hz0, hz1, hz2⟩ := info_parts info_bool
  have := run_make (P := Try.prog) w 37 4 i0 (.bool false) Try.underlying37 hi hz0 .i64 .i64 n n (by omega) (by omega) (by rw [hz2]; omega) (by omega)
  rw [hz1] at this
  simp only [Int.toNat_natCast] at this
  rw [made_no] at this
  exact this

/-- Which numbers were taken, by a row of yes and no. -/
def Pt (ts : List Bool) (x : Int) : Prop := 0 ≤ x ∧ ts.getD x.toNat false = true
structure Kn (w wr : World) (h : Int) (b : Nat) (ts : List Bool) : Prop where
  win : Win wr w.heap.size h b
  tab : Blk wr (w.heap.size + 1) (arrB ts) 4
  len : ts.length = 301
  rep : Rep h b (Pt ts)
  bel : Below w.heap.size w wr
theorem Kn.next {w wr w' : World} {h : Int} {b : Nat} {ts : List Bool} (hx : Kn w wr h b ts) (hb : Below wr.heap.size wr w') : Kn w w' h b ts := ⟨Blk.next hx.win hb, hx.tab.next hb, hx.len, hx.rep, bel_step hx.bel hb⟩
theorem Pt_set {ts : List Bool} {i : Nat} (hi : i < ts.length) (x : Int) : Pt (ts.set i true) x ↔ Pt ts x ∨ x = (i : Int) := by
  unfold Pt
  have e : (ts.set i true).getD x.toNat false = if i = x.toNat then true else ts.getD x.toNat false := by
    simp only [List.getD, List.getElem?_set]
    by_cases h : i = x.toNat
    · rw [if_pos h, if_pos h]; simp [hi]
    · rw [if_neg h, if_neg h]
  rw [e]
  constructor
  · rintro ⟨h1, h2⟩
    by_cases h : i = x.toNat
    · exact .inr (by omega)
    · rw [if_neg h] at h2; exact .inl ⟨h1, h2⟩
  · rintro (⟨h1, h2⟩ | h1)
    · refine ⟨h1, ?_⟩
      by_cases h : i = x.toNat
      · rw [if_pos h]
      · rw [if_neg h]; exact h2
    · refine ⟨by omega, ?_⟩
      rw [if_pos (by omega)]

end Go.Proofs.Yteibdogejiajnaa.win
