/- cents.Deal and vendmeterref.Dealt, side by side. -/
import Derived.Test.YtipihacnkiijaaaDealtOk
import Derived.Test.YtipihacnkiijaaaSame
namespace Go.Proofs.Ytipihacnkiijaaa.cents
open Go.RowKit

theorem row_nil (w : World) : Row w none 0 [] := ⟨rfl, .inl rfl⟩
theorem row_of {w : World} {g n : Nat} {o : Nat → Int} (h : ∀ i, i < n → w.cell? ⟨g, i, none⟩ = some (.int .i64 (o i))) : Row w (some ⟨g, 0, none⟩) n ((List.range n).map o) := by
  refine ⟨by simp, .inr ⟨g, 0, rfl, fun i hi => ?_⟩⟩
  rw [Nat.zero_add, h i hi]
  simp [List.getD, hi]

theorem left_ok (total : Int) {zs : List Int} {n : Nat} (h0 : 0 < n) (hlen : zs.length = n) (hs : 0 < zs.sum) : 0 ≤ leftOf total zs.sum zs n ∧ leftOf total zs.sum zs n ≤ n := by
  have := left_bd (total := total) h0 hlen rfl hs
  omega

theorem sum_pos {zs : List Int} (hok : okAll 0 1000000 zs = true) (hs : ¬ zs.sum = 0) : 0 < zs.sum := by
  have := (mem_le_sum zs fun z hz => (okAll_bd hok z hz).1).1
  omega

end Go.Proofs.Ytipihacnkiijaaa.cents
