/- What a bound on all that came in gives. -/
import Derived.Test.YtfhlokjpdkmdjaaRows
namespace Go.Proofs.Ytfhlokjpdkmdjaa.bulk

theorem one {H : Type} (d : DataW H) : 1 ≤ Rows.uptoBulk d := by
  cases d with
  | lit l => cases l <;> simp [Rows.uptoBulk]
  | _ => simp [Rows.uptoBulk]
theorem len {H : Type} (l : List (DataW H)) : l.length ≤ Rows.uptoBulkAll l := by
  induction l with
  | nil => exact Nat.zero_le _
  | cons x r ih => have := one x; simp only [Rows.uptoBulkAll, List.length_cons]; omega
theorem mem {H : Type} {d : DataW H} {l : List (DataW H)} (h : d ∈ l) : Rows.uptoBulk d ≤ Rows.uptoBulkAll l := by
  induction l with
  | nil => cases h
  | cons x r ih =>
    simp only [Rows.uptoBulkAll]
    rcases List.mem_cons.1 h with rfl | e
    · omega
    · have := ih e; omega
/-- A slice that came in has at most so many elements. -/
theorem slice {H : Type} {es sp : List (DataW H)} {l : List (DataW H)} (hk : Rows.uptoSmall H l = true) (h : DataW.slice es sp ∈ l) : es.length ≤ 1048576 := by
  have h1 : Rows.uptoBulkAll l ≤ 1048576 := of_decide_eq_true hk
  have h2 := mem h
  simp only [Rows.uptoBulk] at h2
  have h3 := len es
  omega

end Go.Proofs.Ytfhlokjpdkmdjaa.bulk
