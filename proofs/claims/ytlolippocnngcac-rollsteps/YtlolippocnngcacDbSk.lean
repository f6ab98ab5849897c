/- Debts compared, by the statements that keep. -/
import Derived.Test.YtlolippocnngcacDbE
import Derived.Test.YtlolippocnngcacProg
import Derived.WalkKit
import Derived.Laws.StructEq
namespace Go.Proofs.Ytlolippocnngcac.deb
open Go.Proofs.Ytlolippocnngcac.tar (Du du0 Came RowD Ld PairT GaveD wp_pairs)
open Go.RowKit
set_option linter.unusedSimpArgs false
set_option linter.unusedVariables false
set_option maxRecDepth 100000

set_option maxHeartbeats 1000000 in
theorem keep_debts (a b : Option Addr) (n c1 c2 : Nat) (zs : List Du) (w : World) (h1 : RowD w a n zs) (h2 : RowD w b n zs) (hn : n ≤ maxLen) :
    Calls Try.prog 12 #[.slice a n c1, .slice b n c2] w fun e w' => e = .returned (.bool true) ∧ Below w.heap.size w w' := by
  have hne : ((n : Int) != (n : Int)) = false := by simp
  unfold maxLen at hn
  go_enter Try.func12, Try.ntmps12
  go_wp2_with fail
  go_loopw [5] (fun i wr => ∃ k : Nat, k ≤ n ∧ i = .int .i64 k ∧ Below w.heap.size w wr) (fun i _ => n - (intOf i).toNat)
  case atStart => exact ⟨0, Nat.zero_le _, rfl, Below.refl _ _⟩
  case round =>
    obtain ⟨k, hk, rfl, hb⟩ := hrel
    by_cases hlt : k < n
    · obtain ⟨b1, o1, rfl, l1, hc1⟩ := h1.at (by omega)
      obtain ⟨b2, o2, rfl, l2, hc2⟩ := h2.at (by omega)
      have f1 : wr.cell? ⟨b1, o1 + k * 2, none⟩ = some (.int .i64 (zs.getD k du0).a) := (hb.cell (p := ⟨b1, o1 + k * 2, none⟩) l1).trans (hc1 k hlt).1
      have f2 : wr.cell? ⟨b1, o1 + k * 2 + 1, none⟩ = some (.int .i64 (zs.getD k du0).b) := (hb.cell (p := ⟨b1, o1 + k * 2 + 1, none⟩) l1).trans (hc1 k hlt).2
      have f3 : wr.cell? ⟨b2, o2 + k * 2, none⟩ = some (.int .i64 (zs.getD k du0).a) := (hb.cell (p := ⟨b2, o2 + k * 2, none⟩) l2).trans (hc2 k hlt).1
      have f4 : wr.cell? ⟨b2, o2 + k * 2 + 1, none⟩ = some (.int .i64 (zs.getD k du0).b) := (hb.cell (p := ⟨b2, o2 + k * 2 + 1, none⟩) l2).trans (hc2 k hlt).2
      have hq : ∀ wz : World, (Op.equalIn 10000 46 (.agg #[.int .i64 (zs.getD k du0).a, .int .i64 (zs.getD k du0).b]) (.agg #[.int .i64 (zs.getD k du0).a, .int .i64 (zs.getD k du0).b])).run Try.prog wz = .ok true wz := fun wz => by rw [eqDebt]; simp
      have HB : Hid (Below w.heap.size w wr) := hb
      clear hc1 hc2 h1 h2 l1 l2 hb
      generalize (zs.getD k du0).a = p at *
      generalize (zs.getD k du0).b = d at *
      go_wp2_with fail
      go_region
      all_goals go_wp2_with fail
      go_roundw
      case rel => exact ⟨k + 1, by omega, by go_num, HB.out.drew⟩
      case measure => simp [intOf]; omega
    · go_wp2_with fail
      go_ret
      exact ⟨rfl, hb⟩

end Go.Proofs.Ytlolippocnngcac.deb
