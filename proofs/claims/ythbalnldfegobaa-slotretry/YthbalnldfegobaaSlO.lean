/- Lists of words, and numbers, that came in: what the frame hands over. -/
import Derived.Test.YthbalnldfegobaaSlW
namespace Go.Proofs.Ythbalnldfegobaa.slot
open Go.RowKit Go.Proofs.Ythbalnldfegobaa.cell

theorem rws_of {w : World} {x : Addr} {len cap : Nat} {A : Nat → Option Addr} {L C : Nat → Nat} {Z : Nat → List Int} (hl : len ≤ cap)
    (h : ∀ r, r < cap → w.cell? (x.add r) = some (.slice (A r) (L r) (C r)) ∧ L r ≤ C r ∧ C r ≤ maxLen ∧ (Z r).length = C r ∧ (∀ n ∈ Z r, (Lit.int .u32 n).wf = true) ∧ (A r = none → C r = 0) ∧
        ∀ a', A r = some a' → 0 ≤ a'.block ∧ ∀ c, c < C r → w.cell? (a'.add c) = some (.int .u32 ((Z r).getD c 0))) :
    Rws w (some x) len A L C (fun r => (Z r).take (L r)) := by
  intro i hi
  obtain ⟨h1, h2, _, h4, _, h6, h7⟩ := h i (by omega)
  have hx0 := (h 0 (by omega)).1
  obtain ⟨b, off, spot⟩ := x
  have hs : spot = none := by simpa [Addr.add] using World.cell?_spot hx0
  subst hs
  rw [Addr.add_lit] at h1
  refine ⟨b, off, rfl, h1, by show ((Z i).take (L i)).length = L i; rw [List.length_take, h4]; omega, ?_⟩
  by_cases h0 : L i = 0
  · exact .inl h0
  · right
    cases ha : A i with
    | none => have := h6 ha; omega
    | some a' =>
      obtain ⟨_, hc⟩ := h7 a' ha
      obtain ⟨b', off', spot'⟩ := a'
      have hs : spot' = none := by simpa [Addr.add] using World.cell?_spot (hc 0 (by omega))
      subst hs
      refine ⟨b', off', rfl, fun j hj => ?_⟩
      have := hc j (by omega)
      rw [Addr.add_lit] at this
      rw [this]
      congr 2
      simp [hj]
theorem rowI_of {w : World} {x : Addr} {len cap : Nat} {zs : List Int} (hl : len ≤ cap) (hz : zs.length = cap) (hc : ∀ i, i < zs.length → w.cell? (x.add i) = some (.int .i64 (zs.getD i 0))) (hw : ∀ n ∈ zs, (Lit.int .i64 n).wf = true) : RowI w (some x) len zs := by
  intro i hi
  have h1 := hc i (by omega)
  have hx0 := hc 0 (by omega)
  obtain ⟨b, off, spot⟩ := x
  have hs : spot = none := by simpa [Addr.add] using World.cell?_spot hx0
  subst hs
  rw [Addr.add_lit] at h1
  refine ⟨b, off, rfl, h1, hw _ ?_⟩
  have : i < zs.length := by omega
  simp [List.getD, List.getElem?_eq_getElem this]

end Go.Proofs.Ythbalnldfegobaa.slot
