/- The statement CalWeekdays. -/
import Derived.Test.YtgeemnoefhnlnaaKaWeek
import Derived.Test.YtgeemnoefhnlnaaCaR
namespace Go.Proofs.Ytgeemnoefhnlnaa.cal
open Go.RowKit
set_option maxRecDepth 100000
set_option linter.unusedVariables false
set_option linter.unusedSimpArgs false

set_option maxHeartbeats 1000000 in
theorem CwWeeks_walk (K : KaWeek) (x : Int) (w : World) (hx : (Lit.int .i64 x).wf = true) : Calls Try.prog 7 #[.int .i64 x] w fun e w' => e = .returned (.bool true) ∧ Below w.heap.size w w' := by
  have H1 : Hid (∀ W, Calls Try.prog 17 #[.int .i64 x] W fun e w' => WeekPost W x e w') := fun W => K W x hx
  have H2 : Hid (∀ W, Calls Try.prog 18 #[.int .i64 x] W fun e w' => WeekPost W x e w') := fun W => weekdayOf x W
  clear K hx
  have H0B : Hid (Below w.heap.size w w) := Below.refl _ _
  go_enter Try.func7, Try.ntmps7
  go_wp2_with fail
  refine (H1.out _).mono ?_
  rintro e w1 ⟨x1, f1, rfl, hi1, hb1⟩
  have H1B : Hid (Below w.heap.size w w1) := bel_step H0B.out hb1
  have HI : Hid (WeekIs x x1 f1) := hi1
  clear H0B hb1 hi1 H1
  go_wp2_with fail
  refine (H2.out _).mono ?_
  rintro e w2 ⟨x2, f2, rfl, hi2, hb2⟩
  have H2B : Hid (Below w.heap.size w w2) := bel_step H1B.out hb2
  obtain ⟨rfl, rfl⟩ := HI.out.one hi2
  clear H1B hb2 hi2 H2 HI
  have e1 : (x1 == x1) = true := by simp
  have e2 : (f1 == f1) = true := by simp
  go_wp2_with fail
  go_ret
  exact ⟨rfl, H2B.out⟩

end Go.Proofs.Ytgeemnoefhnlnaa.cal
