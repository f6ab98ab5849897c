/- The statement ReceiptMeters. -/
import Derived.Test.YtlicdeppfhmfjaaDoorKrM
import Derived.Test.YtlicdeppfhmfjaaDoorRcM
namespace Go.Proofs.YtlicdeppfhmfjaaDoor.rcp
open Go.RowKit
set_option maxRecDepth 100000
set_option linter.unusedVariables false
set_option linter.unusedSimpArgs false

set_option maxHeartbeats 2000000 in
theorem ReceiptMeters_walk (s : ByteArray) (w : World) (K : KrMeter w) : Calls Tryd.prog 4 #[.string s] w fun e w' => e = .returned (.bool true) ∧ Below w.heap.size w w' := by
  have H1 : Hid (Calls Tryd.prog 8 #[.string s] w fun e w' => MeterPost w s.data.toList e w') := K w s (Below.refl _ _)
  have H2 : Hid (∀ W, Calls Tryd.prog 9 #[.string s] W fun e w' => MeterPost W s.data.toList e w') := fun W => meter_any s W
  go_enter Tryd.func4, Tryd.ntmps4
  go_wp2_with fail
  refine H1.out.mono ?_
  rintro e w1 ⟨l, f, rfl, h1, hb1⟩
  go_wp2_with fail
  refine (H2.out _).mono ?_
  rintro e w2 ⟨l2, f2, rfl, h2, hb2⟩
  obtain ⟨rfl, rfl⟩ := h1.one h2
  have HB : Hid (Below w.heap.size w w2) := hb1.trans (hb2.mono hb1.size)
  have ef : (f == f) = true := by simp
  have el : (l == l) = true := by simp
  clear h1 h2 hb1 hb2 H1 H2
  go_wp2_with fail
  go_ret
  exact ⟨rfl, HB.out⟩

end Go.Proofs.YtlicdeppfhmfjaaDoor.rcp
