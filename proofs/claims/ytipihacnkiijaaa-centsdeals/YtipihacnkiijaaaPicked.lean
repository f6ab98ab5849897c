/- What picked gives back: a number from 0 to many - 1. -/
import Derived.Test.YtipihacnkiijaaaCents
import Derived.OpenShut
namespace Go.Proofs.Ytipihacnkiijaaa.cents
open Go.RowKit

/-- The number that picked makes of n. -/
def pick (n many : Int) : Int := (if n < 0 then -(n + 1) else n) % many

theorem pick_nonneg (n many : Int) (h : 0 < many) : 0 ≤ pick n many := Int.emod_nonneg _ (by omega)
theorem pick_lt (n many : Int) (h : 0 < many) : pick n many < many := Int.emod_lt_of_pos _ h

theorem ret_int {k : IntKind} {a b : Int} (h : a = b) : Ending.returned (.int k a) = .returned (.int k b) := by rw [h]

set_option maxHeartbeats 400000 in
theorem picked_any (n many : Int) (w : World) (hn : (Lit.int .i64 n).wf = true) (hm : 0 < many) (hm' : many ≤ 4000000000000) :
    Calls Try.prog 13 #[.int .i64 n, .int .i64 many] w fun e w' => e = .returned (.int .i64 (pick n many)) ∧ w' = w := by
  have hb : -9223372036854775808 ≤ n ∧ n ≤ 9223372036854775807 := bounds_i64 hn
  obtain ⟨hb1, hb2⟩ := hb
  by_cases h : n < 0
  · have e0 : pick n many = (-(n + 1)) % many := by unfold pick; rw [if_pos h]
    rw [e0]
    go_enter Try.func13, Try.ntmps13
    go_wp2
    go_ret
    exact ⟨ret_int (by rw [← Int.neg_tmod, Int.tmod_eq_emod_of_nonneg (by omega)]), rfl⟩
  · have e0 : pick n many = n % many := by unfold pick; rw [if_neg h]
    rw [e0]
    go_enter Try.func13, Try.ntmps13
    go_wp2
    go_ret
    exact ⟨rfl, rfl⟩

end Go.Proofs.Ytipihacnkiijaaa.cents
