/- A new pocket, as the document says. -/
import Derived.Test.YtgipkpkjoicehaaPkD
import Derived.Test.YtgipkpkjoicehaaClArr
import Derived.Test.YtgipkpkjoicehaaMtR
namespace Go.Proofs.Ytgipkpkjoicehaa.pkt
open Go.RowKit Go.Proofs.Ytgipkpkjoicehaa.met Go.Proofs.Ytgipkpkjoicehaa.slot Go.Proofs.Ytgipkpkjoicehaa.cell
set_option maxRecDepth 100000
set_option linter.unusedVariables false
set_option linter.unusedSimpArgs false

set_option maxHeartbeats 1000000 in
theorem made_any (me : Int) (w : World) : Calls Try.prog 7 #[.int .i64 me] w fun e w' => MakePost w me e w' := by
  have HIN : Hid (∀ W, Calls Try.prog 18 #[.int .i64 me, .int .i64 0, .int .i64 49] W fun e w' => e = .returned (.bool (decide (0 ≤ me ∧ me ≤ 49))) ∧ w' = W) := fun W => in_told me 0 49 W
  by_cases hme : 0 ≤ me ∧ me ≤ 49
  · rw [decide_eq_true hme] at HIN
    have HME : Hid (0 ≤ me ∧ me ≤ 49) := hme
    have hw : IntKind.u32.wrap me = me := by have := hme.1; have := hme.2; unfold IntKind.wrap; simp [IntKind.bits, IntKind.signed]; omega
    have HG : Hid (Blk (w.alloc (.cells #[.int .u32 1, .int .u32 0, .int .u32 me, .int .u32 0, .int .u32 0, .int .u32 0, .int .u32 0, .int .u32 0, .int .u32 0, .int .u32 0, .int .u32 0, .int .u32 0] 45)) w.heap.size (arr (mk me)) 45) := Blk.new w _ _
    have HB : Hid (Below w.heap.size w (w.alloc (.cells #[.int .u32 1, .int .u32 0, .int .u32 me, .int .u32 0, .int .u32 0, .int .u32 0, .int .u32 0, .int .u32 0, .int .u32 0, .int .u32 0, .int .u32 0, .int .u32 0] 45))) := (Below.refl _ _).alloc (Nat.le_refl _) _
    clear hme
    go_enter Try.func7, Try.ntmps7
    go_wp2_with fail
    refine (HIN.out _).mono ?_
    rintro e w1 ⟨rfl, rfl⟩
    go_wp2_with fail
    go_ret2
    exact ⟨_, 12, 12, mk me, 0, rfl, ⟨Blk.rowU HG.out rfl, (fun h => by cases h), Nat.le_refl _⟩, .inl ⟨HME.out, rfl, rfl⟩, HB.out⟩
  · rw [decide_eq_false hme] at HIN
    have HME : Hid (¬ (0 ≤ me ∧ me ≤ 49)) := hme
    clear hme
    go_enter Try.func7, Try.ntmps7
    go_wp2_with fail
    refine (HIN.out _).mono ?_
    rintro e w1 ⟨rfl, rfl⟩
    go_wp2_with fail
    go_ret2
    exact ⟨none, 0, 0, [], 2, rfl, ⟨RowU.nil _ _, (fun _ => rfl), Nat.le_refl _⟩, .inr ⟨HME.out, rfl, rfl⟩, Below.refl _ _⟩

end Go.Proofs.Ytgipkpkjoicehaa.pkt
