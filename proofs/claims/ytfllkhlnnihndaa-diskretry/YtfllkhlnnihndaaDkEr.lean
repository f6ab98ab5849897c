/- What slices of slices read as. -/
import Derived.Test.YtfllkhlnnihndaaRRow
namespace Go.Proofs.Ytfllkhlnnihndaa.disk
open Go.RowKit Go.Proofs.Ytfllkhlnnihndaa.cell
set_option maxRecDepth 100000
set_option linter.unusedVariables false

/-- This slice of slices reads as these rows. -/
def Reads (w : World) (a : Option Addr) (n : Nat) (zs : List (List Int)) : Prop :=
  zs.length = n ∧ (n = 0 ∨ ∃ b off, a = some ⟨b, off, none⟩ ∧ b < w.heap.size ∧ ∀ i, i < n → ∃ s : Sli, w.cell? ⟨b, off + i, none⟩ = some s.v ∧ RowU w s.a s.n (zs.getD i []) ∧ s.n ≤ 100000)
theorem Reads.below {w w' : World} {a : Option Addr} {n : Nat} {zs : List (List Int)} (h : Reads w a n zs) (hb : Below w.heap.size w w') : Reads w' a n zs := by
  refine ⟨h.1, ?_⟩
  rcases h.2 with h0 | ⟨b, off, rfl, lb, hc⟩
  · exact .inl h0
  · refine .inr ⟨b, off, rfl, Nat.lt_of_lt_of_le lb hb.size, fun i hi => ?_⟩
    obtain ⟨s, h1, h2, h3⟩ := hc i hi
    exact ⟨s, (hb.cell (p := ⟨b, off + i, none⟩) lb).trans h1, h2.below hb, h3⟩
theorem reads_of {T : TypeId} {w : World} {base : Nat} {V : Value} {sl : List Sli} {own : Option Nat} {zs : List (List Int)} (h : Lr T w base V sl) (hr : Recs w own sl zs) (hz : ∀ i, i < sl.length → (sl.getD i sl0).n ≤ 100000) : ∃ a cap, V = .slice a zs.length cap ∧ Reads w a zs.length zs := by
  obtain ⟨a, cap, hv⟩ := h.len
  refine ⟨a, cap, by rw [← hr.1]; exact hv, rfl, ?_⟩
  by_cases h0 : zs.length = 0
  · exact .inl h0
  · obtain ⟨g, cap2, hv2, _, lg, _, hc⟩ := h.row (by rw [hr.1]; omega)
    rw [hv] at hv2
    injection hv2 with ea _ _
    refine .inr ⟨g, 0, ea, lg, fun i hi => ?_⟩
    refine ⟨sl.getD i sl0, by rw [Nat.zero_add]; exact hc i (by rw [hr.1]; exact hi), (hr.2 i (by rw [hr.1]; exact hi)).2, hz i (by rw [hr.1]; exact hi)⟩
/-- The same, and all of it lies in memory that is new since base. -/
def ReadsF (w : World) (base : Nat) (a : Option Addr) (n : Nat) (zs : List (List Int)) : Prop :=
  zs.length = n ∧ (n = 0 ∨ ∃ b off, a = some ⟨b, off, none⟩ ∧ base ≤ b ∧ b < w.heap.size ∧ ∀ i, i < n → ∃ s : Sli, w.cell? ⟨b, off + i, none⟩ = some s.v ∧ RowU w s.a s.n (zs.getD i []) ∧ s.n ≤ 100000 ∧ ∀ x, s.a = some x → base ≤ x.block)
theorem ReadsF.reads {w : World} {base : Nat} {a : Option Addr} {n : Nat} {zs : List (List Int)} (h : ReadsF w base a n zs) : Reads w a n zs := by
  refine ⟨h.1, ?_⟩
  rcases h.2 with h0 | ⟨b, off, rfl, _, lb, hc⟩
  · exact .inl h0
  · exact .inr ⟨b, off, rfl, lb, fun i hi => by obtain ⟨s, h1, h2, h3, _⟩ := hc i hi; exact ⟨s, h1, h2, h3⟩⟩
theorem ReadsF.below {w w' : World} {base : Nat} {a : Option Addr} {n : Nat} {zs : List (List Int)} (h : ReadsF w base a n zs) (hb : Below w.heap.size w w') : ReadsF w' base a n zs := by
  refine ⟨h.1, ?_⟩
  rcases h.2 with h0 | ⟨b, off, rfl, l0, lb, hc⟩
  · exact .inl h0
  · refine .inr ⟨b, off, rfl, l0, Nat.lt_of_lt_of_le lb hb.size, fun i hi => ?_⟩
    obtain ⟨s, h1, h2, h3, h4⟩ := hc i hi
    exact ⟨s, (hb.cell (p := ⟨b, off + i, none⟩) lb).trans h1, h2.below hb, h3, h4⟩
theorem rowU_grown {w w' : World} {own : Option Nat} {a : Option Addr} {n : Nat} {zs : List Int} (h : RowU w a n zs) (hg : w.grownBy w' own) (hne : ∀ x, a = some x → some x.block ≠ own) : RowU w' a n zs := by
  refine ⟨h.1, ?_⟩
  rcases h.2 with h0 | ⟨b, off, rfl, hc⟩
  · exact .inl h0
  · refine .inr ⟨b, off, rfl, fun i hi => ?_⟩
    have h1 := hc i hi
    have hb := hg.block b (World.block_lt_of_cell? w ⟨b, off + i, none⟩ h1) (hne _ rfl)
    rw [← h1]
    simp [World.cell?, hb]
/-- Something older grows. -/
theorem ReadsF.grown {w w' : World} {base : Nat} {own : Option Nat} {a : Option Addr} {n : Nat} {zs : List (List Int)} (h : ReadsF w base a n zs) (hg : w.grownBy w' own) (ho : ∀ k, own = some k → k < base) : ReadsF w' base a n zs := by
  refine ⟨h.1, ?_⟩
  rcases h.2 with h0 | ⟨b, off, rfl, l0, lb, hc⟩
  · exact .inl h0
  · have ne : ∀ k, base ≤ k → some k ≠ own := fun k hk e => by have := ho k e.symm; omega
    refine .inr ⟨b, off, rfl, l0, Nat.lt_of_lt_of_le lb hg.size, fun i hi => ?_⟩
    obtain ⟨s, h1, h2, h3, h4⟩ := hc i hi
    have hb := hg.block b lb (ne b l0)
    exact ⟨s, by rw [← h1]; simp [World.cell?, hb], rowU_grown h2 hg (fun x hx => ne _ (h4 x hx)), h3, h4⟩

end Go.Proofs.Ytfllkhlnnihndaa.disk
