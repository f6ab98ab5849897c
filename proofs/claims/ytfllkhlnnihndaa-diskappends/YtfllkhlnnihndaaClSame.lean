/- Rows of words and of writes, compared. -/
import Derived.Test.YtfllkhlnnihndaaClRow
import Derived.Test.YtfllkhlnnihndaaWSame
import Derived.Laws.StructEq
namespace Go.Proofs.Ytfllkhlnnihndaa.cell
open Go.RowKit
set_option linter.unusedSimpArgs false
set_option maxRecDepth 100000

theorem eqI (d : Nat) (a b : Int) (w : World) : (Op.equalIn (d + 1) 3 (.int .i64 a) (.int .i64 b)).run Try.prog w = .ok (a == b) w := run_equalIn_int w d _ _ _ a b Try.underlying3
theorem eqU (d : Nat) (a b : Int) (w : World) : (Op.equalIn (d + 1) 42 (.int .u32 a) (.int .u32 b)).run Try.prog w = .ok (a == b) w := run_equalIn_int w d _ _ _ a b Try.underlying42
theorem wt0 (s c : Int) (w : World) : (part 3 #[.int .i64 s, .int .u32 c] 0).run Try.prog w = .ok (.int .i64 s) w := by kernel_rfl
theorem wt1 (s c : Int) (w : World) : (part 42 #[.int .i64 s, .int .u32 c] 1).run Try.prog w = .ok (.int .u32 c) w := by kernel_rfl
theorem eqW (s t b c : Int) (w : World) :
    (Op.equalIn 10000 44 (.agg #[.int .i64 s, .int .u32 b]) (.agg #[.int .i64 t, .int .u32 c])).run Try.prog w = .ok (s == t && b == c) w := by
  rw [show (10000 : Nat) = 9999 + 1 from rfl, run_equalIn_agg w 9999 44 _ _ (by kernel_rfl) (by kernel_rfl)]
  simp only [Program.fieldsOf, Try.underlying44, Op.eqFields, Sem.run_bind, Sem.run_ite]
  by_cases h1 : (s == t) = true <;> by_cases h2 : (b == c) = true <;> simp [wt0, wt1, show (9999 : Nat) = 9998 + 1 from rfl, eqI, eqU, h1, h2]

set_option maxHeartbeats 1000000 in
theorem writes_law (a b : Option Addr) (n c1 c2 : Nat) (zs : List Wr) (w : World) (h1 : RowW w a n zs) (h2 : RowW w b n zs) (hn : n ≤ maxLen) :
    Calls Try.prog 16 #[.slice a n c1, .slice b n c2] w fun e w' => e = .returned (.bool true) ∧ Below w.heap.size w w' := by
  have hne : ((n : Int) != (n : Int)) = false := by simp
  unfold maxLen at hn
  go_enter Try.func16, Try.ntmps16
  go_wp2_with fail
  go_loopw [5] (fun i wr => ∃ k : Nat, k ≤ n ∧ i = .int .i64 k ∧ Below w.heap.size w wr) (fun i _ => n - (intOf i).toNat)
  case atStart => exact ⟨0, Nat.zero_le _, rfl, Below.refl _ _⟩
  case round =>
    obtain ⟨k, hk, rfl, hb⟩ := hrel
    by_cases hlt : k < n
    · obtain ⟨b1, o1, rfl, l1, hc1⟩ := h1.at (by omega)
      obtain ⟨b2, o2, rfl, l2, hc2⟩ := h2.at (by omega)
      have f1 : wr.cell? ⟨b1, o1 + k * 2, none⟩ = some (.int .i64 (zs.getD k wr0).p) := (hb.cell (p := ⟨b1, o1 + k * 2, none⟩) l1).trans (hc1 k hlt).1
      have f2 : wr.cell? ⟨b1, o1 + k * 2 + 1, none⟩ = some (.int .u32 (zs.getD k wr0).d) := (hb.cell (p := ⟨b1, o1 + k * 2 + 1, none⟩) l1).trans (hc1 k hlt).2
      have f3 : wr.cell? ⟨b2, o2 + k * 2, none⟩ = some (.int .i64 (zs.getD k wr0).p) := (hb.cell (p := ⟨b2, o2 + k * 2, none⟩) l2).trans (hc2 k hlt).1
      have f4 : wr.cell? ⟨b2, o2 + k * 2 + 1, none⟩ = some (.int .u32 (zs.getD k wr0).d) := (hb.cell (p := ⟨b2, o2 + k * 2 + 1, none⟩) l2).trans (hc2 k hlt).2
      have hq : ∀ wz : World, (Op.equalIn 10000 44 (.agg #[.int .i64 (zs.getD k wr0).p, .int .u32 (zs.getD k wr0).d]) (.agg #[.int .i64 (zs.getD k wr0).p, .int .u32 (zs.getD k wr0).d])).run Try.prog wz = .ok true wz := fun wz => by rw [eqW]; simp
      have HB : Hid (Below w.heap.size w wr) := hb
      clear hc1 hc2 h1 h2 l1 l2 hb
      generalize (zs.getD k wr0).p = p at *
      generalize (zs.getD k wr0).d = d at *
      go_wp2_with fail
      go_region
      all_goals go_wp2_with fail
      go_roundw
      case rel => exact ⟨k + 1, by omega, by go_num, HB.out.drew⟩
      case measure => simp [intOf]; omega
    · go_wp2_with fail
      go_ret
      exact ⟨rfl, hb⟩

end Go.Proofs.Ytfllkhlnnihndaa.cell
