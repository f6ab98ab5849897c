/- What picked gives back: a number from 0 to many - 1. -/
import Derived.Test.YtnhidiefchamlaaDoorProg
import Derived.WalkKit
import Derived.Below
import Derived.OpenShut
namespace Go.Proofs.YtnhidiefchamlaaDoor.check
open Go.RowKit

/-- The number that picked makes of n. -/
def pick (n many : Int) : Int := (if n < 0 then -(n + 1) else n) % many
theorem pick_nonneg (n many : Int) (h : 0 < many) : 0 ≤ pick n many := Int.emod_nonneg _ (by omega)
theorem pick_lt (n many : Int) (h : 0 < many) : pick n many < many := Int.emod_lt_of_pos _ h

set_option maxHeartbeats 400000 in
theorem picked_any (n many : Int) (w : World) (hn : (Lit.int .i64 n).wf = true) (hm : 0 < many) (hm' : many ≤ 4000000000000) :
    Calls Tryd.prog 12 #[.int .i64 n, .int .i64 many] w fun e w' => e = .returned (.int .i64 (pick n many)) ∧ w' = w := by
  have hb : -9223372036854775808 ≤ n ∧ n ≤ 9223372036854775807 := bounds_i64 hn
  obtain ⟨hb1, hb2⟩ := hb
  by_cases h : n < 0
  · have e0 : pick n many = (-(n + 1)) % many := by unfold pick; rw [if_pos h]
    rw [e0]
    go_enter Tryd.func12, Tryd.ntmps12
    go_wp2
    go_ret
    exact ⟨by rw [← Int.neg_tmod, Int.tmod_eq_emod_of_nonneg (by omega)]; rfl, rfl⟩
  · have e0 : pick n many = n % many := by unfold pick; rw [if_neg h]
    rw [e0]
    go_enter Tryd.func12, Tryd.ntmps12
    go_wp2
    go_ret
    exact ⟨rfl, rfl⟩

/-- The same, as a natural number. -/
theorem picked_nat (n : Int) (many : Nat) (w : World) (hn : (Lit.int .i64 n).wf = true) (hm : 0 < many) (hm' : many ≤ 4000000000000) :
    Calls Tryd.prog 12 #[.int .i64 n, .int .i64 (many : Int)] w fun e w' => e = .returned (.int .i64 (((pick n many).toNat : Nat) : Int)) ∧ w' = w := by
  have h := picked_any n many w hn (by omega) (by omega)
  have h0 := pick_nonneg n many (by omega)
  rw [show (((pick n many).toNat : Nat) : Int) = pick n many by omega]
  exact h
theorem pick_toNat (n : Int) (many : Nat) (hm : 0 < many) : (pick n many).toNat < many := by
  have h0 := pick_nonneg n many (by omega)
  have h1 := pick_lt n many (by omega)
  omega

end Go.Proofs.YtnhidiefchamlaaDoor.check
