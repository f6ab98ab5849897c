/- Tariffs that are right, and what they answer. -/
import Derived.Test.YtfhlokjpdkmdjaaTfD
import Derived.WalkKit
namespace Go.Proofs.Ytfhlokjpdkmdjaa.tar
open Go.RowKit
set_option maxRecDepth 100000
set_option linter.unusedVariables false
set_option linter.unusedSimpArgs false

theorem wf_mid {z : Int} (h0 : 0 ≤ z) (h1 : z ≤ 4000000000000) : (Lit.int .i64 z).wf = true := by
  have h1 : IntKind.i64.min ≤ z := by have e : IntKind.i64.min = -9223372036854775808 := by decide
                                      omega
  have h2 : z ≤ IntKind.i64.max := by have e : IntKind.i64.max = 9223372036854775807 := by decide
                                      omega
  show (decide (IntKind.i64.min ≤ z) && decide (z ≤ IntKind.i64.max)) = true
  rw [Bool.and_eq_true]
  exact ⟨decide_eq_true h1, decide_eq_true h2⟩
theorem Right.wf {l : List Du} (h : Right l) : ∀ x ∈ l, (Lit.int .i64 x.a).wf = true ∧ (Lit.int .i64 x.b).wf = true := by
  intro x hx
  obtain ⟨i, hi, rfl⟩ := List.getElem_of_mem hx
  have e : l.getD i du0 = l[i] := by simp [List.getD, List.getElem?_eq_getElem hi]
  have h1 := h.upto i hi
  have h2 := h.price i hi
  rw [e] at h1 h2
  exact ⟨wf_mid (by omega) (by omega), wf_mid (by omega) (by omega)⟩
theorem Ld.right {T : TypeId} {w : World} {base : Nat} {v : Value} {l : List Du} (h : Ld T w base v l) (hR : Right l) : ∃ a cap, v = .slice a l.length cap ∧ Came w a l.length cap l := h.came (by have := hR.1.2; omega) hR.wf
theorem PriceIs.got {l : List Du} {x n p e : Int} (h : PriceIs l x n p e) (hR : Right l) (hM : Mays x n) : p = cost l x (x + n) ∧ e = 0 := by
  have h0 : e = 0 := h.1.ok.2 ⟨hR, hM⟩
  rcases h.2 with ⟨_, hp⟩ | ⟨hn, _⟩
  · exact ⟨hp, h0⟩
  · exact absurd h0 hn
theorem BillIs.got {l : List Du} {x n e : Int} {z : List Tr} (h : BillIs l x n z e) (hR : Right l) (hM : Mays x n) : z = billK l x (x + n) l.length ∧ e = 0 := by
  have h0 : e = 0 := h.1.ok.2 ⟨hR, hM⟩
  rcases h.2 with ⟨_, hp⟩ | ⟨hn, _⟩
  · exact ⟨hp, h0⟩
  · exact absurd h0 hn
theorem MostIs.got {l : List Du} {x m u p e : Int} (h : MostIs l x m u p e) (hR : Right l) (hM : MayMost x m) : e = 0 ∧ MostOf l x m u ∧ p = cost l x (x + u) := by
  rcases h with ⟨a, _⟩ | ⟨_, b, _⟩ | ⟨_, _, c, d⟩
  · exact absurd hR a
  · exact absurd hM b
  · exact ⟨c, d⟩

end Go.Proofs.Ytfhlokjpdkmdjaa.tar
