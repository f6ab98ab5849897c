/- Lines compared. -/
import Derived.Test.YtmjjfljaelahoaaTfD
import Derived.Test.YtmjjfljaelahoaaProg
import Derived.WalkKit
import Derived.Laws.StructEq
namespace Go.Proofs.Ytmjjfljaelahoaa.tar
open Go.RowKit
set_option linter.unusedSimpArgs false
set_option linter.unusedVariables false
set_option maxRecDepth 100000

theorem leI (d : Nat) (a b : Int) (w : World) : (Op.equalIn (d + 1) 3 (.int .i64 a) (.int .i64 b)).run Try.prog w = .ok (a == b) w := run_equalIn_int w d _ _ _ a b Try.underlying3
theorem lf0 (a b c : Int) (w : World) : (part 3 #[.int .i64 a, .int .i64 b, .int .i64 c] 0).run Try.prog w = .ok (.int .i64 a) w := by kernel_rfl
theorem lf1 (a b c : Int) (w : World) : (part 3 #[.int .i64 a, .int .i64 b, .int .i64 c] 1).run Try.prog w = .ok (.int .i64 b) w := by kernel_rfl
theorem lf2 (a b c : Int) (w : World) : (part 3 #[.int .i64 a, .int .i64 b, .int .i64 c] 2).run Try.prog w = .ok (.int .i64 c) w := by kernel_rfl
theorem eqLine (a b c : Int) (w : World) :
    (Op.equalIn 10000 50 (.agg #[.int .i64 a, .int .i64 b, .int .i64 c]) (.agg #[.int .i64 a, .int .i64 b, .int .i64 c])).run Try.prog w = .ok true w := by
  rw [show (10000 : Nat) = 9999 + 1 from rfl, run_equalIn_agg w 9999 50 _ _ (by kernel_rfl) (by kernel_rfl)]
  simp only [Program.fieldsOf, Try.underlying50, Op.eqFields, Sem.run_bind, Sem.run_ite]
  simp [lf0, lf1, lf2, show (9999 : Nat) = 9998 + 1 from rfl, leI]
set_option maxHeartbeats 1000000 in
theorem same_lines (a b : Option Addr) (n c1 c2 : Nat) (zs : List Tr) (w : World) (h1 : RowL w a n zs) (h2 : RowL w b n zs) (hn : n ≤ 1000000) :
    Calls Try.prog 17 #[.slice a n c1, .slice b n c2] w fun e w' => e = .returned (.bool true) ∧ Below w.heap.size w w' := by
  have hne : ((n : Int) != (n : Int)) = false := by simp
  go_enter Try.func17, Try.ntmps17
  go_wp2_with fail
  go_loopw [5] (fun i wr => ∃ k : Nat, k ≤ n ∧ i = .int .i64 k ∧ Below w.heap.size w wr) (fun i _ => n - (intOf i).toNat)
  case atStart => exact ⟨0, Nat.zero_le _, rfl, Below.refl _ _⟩
  case round =>
    obtain ⟨k, hk, rfl, hb⟩ := hrel
    by_cases hlt : k < n
    · obtain ⟨b1, o1, rfl, l1, hc1⟩ := h1.at (by omega)
      obtain ⟨b2, o2, rfl, l2, hc2⟩ := h2.at (by omega)
      have f1 : wr.cell? ⟨b1, o1 + k * 3, none⟩ = some (.int .i64 (zs.getD k tr0).a) := (hb.cell (p := ⟨b1, o1 + k * 3, none⟩) l1).trans (hc1 k hlt).1
      have f2 : wr.cell? ⟨b1, o1 + k * 3 + 1, none⟩ = some (.int .i64 (zs.getD k tr0).b) := (hb.cell (p := ⟨b1, o1 + k * 3 + 1, none⟩) l1).trans (hc1 k hlt).2.1
      have f3 : wr.cell? ⟨b1, o1 + k * 3 + 2, none⟩ = some (.int .i64 (zs.getD k tr0).c) := (hb.cell (p := ⟨b1, o1 + k * 3 + 2, none⟩) l1).trans (hc1 k hlt).2.2
      have g1 : wr.cell? ⟨b2, o2 + k * 3, none⟩ = some (.int .i64 (zs.getD k tr0).a) := (hb.cell (p := ⟨b2, o2 + k * 3, none⟩) l2).trans (hc2 k hlt).1
      have g2 : wr.cell? ⟨b2, o2 + k * 3 + 1, none⟩ = some (.int .i64 (zs.getD k tr0).b) := (hb.cell (p := ⟨b2, o2 + k * 3 + 1, none⟩) l2).trans (hc2 k hlt).2.1
      have g3 : wr.cell? ⟨b2, o2 + k * 3 + 2, none⟩ = some (.int .i64 (zs.getD k tr0).c) := (hb.cell (p := ⟨b2, o2 + k * 3 + 2, none⟩) l2).trans (hc2 k hlt).2.2
      have hq : ∀ wz : World, (Op.equalIn 10000 50 (.agg #[.int .i64 (zs.getD k tr0).a, .int .i64 (zs.getD k tr0).b, .int .i64 (zs.getD k tr0).c]) (.agg #[.int .i64 (zs.getD k tr0).a, .int .i64 (zs.getD k tr0).b, .int .i64 (zs.getD k tr0).c])).run Try.prog wz = .ok true wz := fun wz => eqLine _ _ _ wz
      have HB : Hid (Below w.heap.size w wr) := hb
      clear hc1 hc2 h1 h2 l1 l2 hb
      generalize (zs.getD k tr0).a = p at *
      generalize (zs.getD k tr0).b = d at *
      generalize (zs.getD k tr0).c = s at *
      go_wp2_with fail
      go_region
      all_goals go_wp2_with fail
      go_roundw
      case rel => exact ⟨k + 1, by omega, by go_num, HB.out.drew⟩
      case measure => simp [intOf]; omega
    · go_wp2_with fail
      go_ret
      exact ⟨rfl, hb⟩

end Go.Proofs.Ytmjjfljaelahoaa.tar
