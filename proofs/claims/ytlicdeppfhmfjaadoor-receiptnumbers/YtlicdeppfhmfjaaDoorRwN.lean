/- The statement ReceiptNumbers. -/
import Derived.Test.YtlicdeppfhmfjaaDoorKrN
import Derived.Test.YtlicdeppfhmfjaaDoorRcP
namespace Go.Proofs.YtlicdeppfhmfjaaDoor.rcp
open Go.RowKit
set_option maxRecDepth 100000
set_option linter.unusedVariables false
set_option linter.unusedSimpArgs false

set_option maxHeartbeats 2000000 in
theorem ReceiptNumbers_walk (m : Int) (w : World) (K : KrNumber w) (hm : (Lit.int .i64 m).wf = true) : Calls Tryd.prog 3 #[.int .i64 m] w fun e w' => e = .returned (.bool true) ∧ Below w.heap.size w w' := by
  have H1 : Hid (Calls Tryd.prog 6 #[.int .i64 m] w fun e w' => NumPost w m e w') := K w m (Below.refl _ _) hm
  have H2 : Hid (∀ W, Calls Tryd.prog 7 #[.int .i64 m] W fun e w' => NumPost W m e w') := fun W => number_any m W
  go_enter Tryd.func3, Tryd.ntmps3
  go_wp2_with fail
  refine H1.out.mono ?_
  rintro e w1 ⟨l, f, rfl, h1, hb1⟩
  go_wp2_with fail
  refine (H2.out _).mono ?_
  rintro e w2 ⟨l2, f2, rfl, h2, hb2⟩
  obtain ⟨rfl, rfl⟩ := h1.one h2
  have HB : Hid (Below w.heap.size w w2) := hb1.trans (hb2.mono hb1.size)
  have ef : (f == f) = true := by simp
  have es : ((⟨l.toArray⟩ : ByteArray).toList == (⟨l.toArray⟩ : ByteArray).toList) = true := by simp
  generalize (⟨l.toArray⟩ : ByteArray) = A at *
  clear h1 h2 hb1 hb2 H1 H2
  go_wp2_with fail
  go_ret
  exact ⟨rfl, HB.out⟩

end Go.Proofs.YtlicdeppfhmfjaaDoor.rcp
