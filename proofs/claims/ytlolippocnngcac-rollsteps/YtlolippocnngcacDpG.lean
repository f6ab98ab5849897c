/- What a debt grows by in a month, in the program. -/
import Derived.Test.YtlolippocnngcacDbD
import Derived.Test.YtlolippocnngcacPart
import Derived.Test.YtlolippocnngcacTfMin
import Derived.Test.YtlolippocnngcacBlk
import Derived.WalkKit
import Derived.Below
import Derived.Test.YtlolippocnngcacProg
namespace Go.Proofs.Ytlolippocnngcac.deb
open Go.Proofs.Ytlolippocnngcac.tar (Du du0 Came RowD Ld ErrPost TwoPost PairT GaveD)
open Go.RowKit
set_option maxRecDepth 100000
set_option linter.unusedVariables false
set_option linter.unusedSimpArgs false

theorem grow_more {b x : Int} (hx : 0 ≤ x) (hx1 : x ≤ 1000000000) (hb : 0 ≤ b) : grow b x = x + min (x * b / 10000) (1000000000 - x) := by
  unfold grow
  have := Int.mul_nonneg hx hb
  generalize x * b = p at *
  omega
set_option maxHeartbeats 2000000 in
theorem pgrowth (x b : Int) (w : World) (hx : 0 ≤ x ∧ x ≤ 1000000000) (hb : 0 ≤ b ∧ b ≤ 10000) : Calls Try.prog 19 #[.agg #[.int .i64 x, .int .i64 b]] w fun e w' => e = .returned (.int .i64 (min (x * b / 10000) (1000000000 - x))) ∧ Below w.heap.size w w' := by
  have HPA : Hid (∀ W, Calls Try.prog 21 #[.int .i64 x, .int .i64 b] W fun e w' => e = .returned (.tuple #[.int .i64 (x * b / 10000), .int .i64 0]) ∧ Below W.heap.size W w') := fun W => cents.part_yes x b W hx.1 (by omega) hb.1 hb.2
  have HBX : Hid (Blk (w.alloc (.cells #[.int .i64 x, .int .i64 b] 46)) w.heap.size #[.int .i64 x, .int .i64 b] 46) := Blk.new w _ _
  have HBW : Hid (Below w.heap.size w (w.alloc (.cells #[.int .i64 x, .int .i64 b] 46))) := (Below.refl _ _).alloc (Nat.le_refl _) _
  obtain ⟨hx0, hx1⟩ := hx
  clear hb
  have hmin := tar.run_min (x * b / 10000) (1000000000 - x) _ rfl
  generalize x * b / 10000 = q at *
  generalize min q (1000000000 - x) = m at *
  go_enter Try.func19, Try.ntmps19
  go_wp2_with fail
  refine (HPA.out _).mono ?_
  rintro e w1 ⟨rfl, hb1⟩
  have HB1 : Hid (Below w.heap.size w w1) := HBW.out.trans (hb1.mono HBW.out.size)
  have c0 : w1.cell? ⟨w.heap.size, 0, none⟩ = some (.int .i64 x) := (HBX.out.next hb1).cell 0
  have c1 : w1.cell? ⟨w.heap.size, 1, none⟩ = some (.int .i64 b) := (HBX.out.next hb1).cell 1
  clear hb1 HPA HBX HBW
  go_wp2_with fail
  go_ret
  exact ⟨rfl, HB1.out⟩

end Go.Proofs.Ytlolippocnngcac.deb
