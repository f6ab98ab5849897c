/- Two slices that read alike are told to be alike. -/
import Derived.Test.YtipihacnkiijaaaCopy
namespace Go.Proofs.Ytipihacnkiijaaa.cents
open Go.RowKit

set_option maxHeartbeats 400000 in
theorem same_yes (a b : Option Addr) (len cap cap' : Nat) (zs : List Int) (w : World) (h1 : Row w a len zs) (h2 : Row w b len zs) (hl : len * 8 ≤ 140737488351232) :
    Calls Try.prog 12 #[.slice a len cap, .slice b len cap'] w fun e w' => e = .returned (.bool true) ∧ Below w.heap.size w w' := by
  have hne : ((len : Int) != (len : Int)) = false := by simp
  go_enter Try.func12, Try.ntmps12
  go_wp2
  go_loopw [5] (fun i wr => ∃ k : Nat, k ≤ len ∧ i = .int .i64 k ∧ Below w.heap.size w wr) (fun i _ => len - (intOf i).toNat)
  case atStart => exact ⟨0, Nat.zero_le _, rfl, Below.refl _ _⟩
  case round =>
    obtain ⟨k, hk, rfl, hb⟩ := hrel
    by_cases hlt : k < len
    · obtain ⟨_, h1⟩ := h1
      obtain ⟨_, h2⟩ := h2
      rcases h1 with h0 | ⟨b1, o1, rfl, hc1⟩
      · omega
      rcases h2 with h0 | ⟨b2, o2, rfl, hc2⟩
      · omega
      have e1 := hc1 k hlt
      have e2 := hc2 k hlt
      have f1 : wr.cell? ⟨b1, o1 + k, none⟩ = some (.int .i64 (zs.getD k 0)) := (hb.cell (p := ⟨b1, o1 + k, none⟩) (block_lt e1)).trans e1
      have f2 : wr.cell? ⟨b2, o2 + k, none⟩ = some (.int .i64 (zs.getD k 0)) := (hb.cell (p := ⟨b2, o2 + k, none⟩) (block_lt e2)).trans e2
      clear hc1 hc2 e1 e2
      generalize zs.getD k 0 = z at f1 f2
      have hz : (z != z) = false := by simp
      go_wp2
      go_region
      all_goals go_wp2
      go_roundw
      case rel => exact ⟨k + 1, by omega, by go_num, hb.drew⟩
      case measure => simp [intOf]; omega
    · go_wp2
      go_ret
      exact ⟨rfl, hb⟩

end Go.Proofs.Ytipihacnkiijaaa.cents
